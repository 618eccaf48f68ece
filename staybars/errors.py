"""The errors of the program: each is made of one value and keeps it."""


class StayError(ValueError):
    """What all errors of the program stand under."""

    def __init__(self, value):
        ValueError.__init__(self, value)
        self.value = value


class BadBar(StayError):
    """No bar, that is no stretch, of so many places."""


class BadBars(StayError):
    """No list of stretches of these places, or one that covers a place too often."""


class BadBases(StayError):
    """No tuple with one table that has a back for each place of a line."""


class BadChain(StayError):
    """No chain of the room told."""


class BadCrossing(StayError):
    """No crossing between the lines told."""


class BadDay(StayError):
    """No day of the net, or none that has a next one."""


class BadDays(StayError):
    """No two days of the net in their sequence."""


class BadDeed(StayError):
    """No deed by its form."""


class BadEntries(StayError):
    """Neither a list nor a tuple where entries are described."""


class BadEntry(StayError):
    """No entry of the room told."""


class BadHeap(StayError):
    """No heap of bars of so many places."""


class BadJoining(StayError):
    """No joining of the two lines."""


class BadKind(StayError):
    """Neither groups nor rings."""


class BadLine(StayError):
    """No line."""


class BadLog(StayError):
    """The row from which on a text is no log."""


class BadLooks(StayError):
    """No list of stretches of these places, where looks are described."""


class BadMark(StayError):
    """No mark, or nothing is kept by it."""


class BadNet(StayError):
    """No net."""


class BadNumber(StayError):
    """No integer that is right here."""


class BadOrder(StayError):
    """No tuple with the number of each point, once."""


class BadPair(StayError):
    """Two things that do not go together."""


class BadPaper(StayError):
    """No right paper of its line."""


class BadPart(StayError):
    """No part, told by its base, of the room told."""


class BadPlace(StayError):
    """No place that is right here."""


class BadPlaces(StayError):
    """No number of places."""


class BadPoint(StayError):
    """No number of a point."""


class BadPrime(StayError):
    """No prime that rooms are counted by."""


class BadRanks(StayError):
    """Not the ranks of any heap."""


class BadRows(StayError):
    """No two unlike numbers of rows."""


class BadShift(StayError):
    """No integer by which the nets are shifted."""


class BadSign(StayError):
    """Neither of the two signs."""


class BadSigns(StayError):
    """No tuple of at most 16 signs."""


class BadStretch(StayError):
    """No stretch of these places."""


class BadTable(StayError):
    """No table between the rooms told."""


class BadText(StayError):
    """The piece from which on a text is not right."""


class BadTie(StayError):
    """No number of a tie."""


class BadWay(StayError):
    """Neither unions nor meets."""


class BadWidth(StayError):
    """No width of a room."""


class BadWidths(StayError):
    """No tuple of widths of rooms."""


class NoDeed(StayError):
    """There is no deed for this."""


class NoDesk(StayError):
    """No desk is kept by this name."""


class NotDone(StayError):
    """The number of the first deed of a list that cannot be done."""


class NotForth(StayError):
    """A line with another sign than the forth one."""


class NotGrowing(StayError):
    """A net that does not grow."""


class NotMatching(StayError):
    """No matching of the two heaps."""


class NotThereAndBack(StayError):
    """No tables there and back."""


class NotWithin(StayError):
    """A part that does not lie within the other one."""


class PointHeld(StayError):
    """The tie that has a point which should go."""


class TooLong(StayError):
    """No further place has room."""


class TooMany(StayError):
    """More than are told or kept."""


class TooShort(StayError):
    """No place can be given up."""
