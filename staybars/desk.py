"""Desks: nets that are changed by deeds, which can be undone, and how their heaps turn over."""

from staybars.bars import turnover
from staybars.deeds import has_deed_form, is_name, ties_of_point, with_days, with_life, without_point, without_tie
from staybars.errors import BadDeed, BadMark, BadTie, NoDeed, NotDone, PointHeld, StayError, TooMany
from staybars.kinds import is_from_to
from staybars.netlines import UNIONS, check_way
from staybars.nets import check_net, cut_days, turned_net
from staybars.nettables import check_kind
from staybars.plain import check_point
from staybars.tides import heap_of_net

MOST_DEEDS = 60


def is_deed(value):
    """Whether any value is a deed by its form."""
    return has_deed_form(value)


def check_heap_words(kind, way):
    """Raise BadKind for the kind, then BadWay for the way."""
    check_kind(kind)
    check_way(way)


class Desk:
    """A net that is changed by deeds; each standing and each undone deed is kept with the net behind it."""

    def __init__(self, net):
        check_net(net)
        self._first_net = net
        self._standing = []
        self._undone = []
        self._marks = {}

    @property
    def net(self):
        """The net as it stands."""
        return self._net_behind(self._standing)

    @property
    def first(self):
        """The net at first."""
        return self._first_net

    def _net_behind(self, steps):
        """The net behind the last one of some steps (deed, net), the first net if there is none."""
        if len(steps) == 0:
            return self._first_net
        return steps[-1][1]

    def _stand(self, deed, net):
        """Let a deed stand by which this comes of the net."""
        check_net(net)
        if len(self._standing) >= MOST_DEEDS:
            raise TooMany(MOST_DEEDS)
        self._standing.append((deed, net))
        self._undone = []

    def _check_tie(self, tie):
        """Raise BadTie for any value that is no number of a tie."""
        if not is_from_to(tie, 0, len(self.net[2]) - 1):
            raise BadTie(tie)

    def come(self, first, end):
        """A point with this life comes; its number."""
        last, points, ties = self.net
        self._stand(("come", first, end), (last, points + ((first, end),), ties))
        return len(points)

    def bind(self, one, other, first, end):
        """A tie of these two points with these days comes; its number."""
        last, points, ties = self.net
        self._stand(("bind", one, other, first, end), (last, points, ties + ((one, other, first, end),)))
        return len(ties)

    def life(self, point, first, end):
        """The point's life is this from now on."""
        check_point(self.net, point)
        self._stand(("life", point, first, end), with_life(self.net, point, (first, end)))

    def days(self, tie, first, end):
        """The tie's days are these from now on."""
        self._check_tie(tie)
        self._stand(("days", tie, first, end), with_days(self.net, tie, (first, end)))

    def set_last(self, day):
        """The last day of the net is this from now on."""
        _, points, ties = self.net
        self._stand(("last", day), (day, points, ties))

    def go(self, point):
        """The point, which no tie has, goes."""
        check_point(self.net, point)
        holding = ties_of_point(self.net, point)
        if len(holding) > 0:
            raise PointHeld(holding[0])
        self._stand(("go", point), without_point(self.net, point))

    def cut(self, tie):
        """The tie goes."""
        self._check_tie(tie)
        self._stand(("cut", tie), without_tie(self.net, tie))

    def turn(self):
        """The days stand in the other sequence from now on."""
        self._stand(("turn",), turned_net(self.net))

    def do(self, deed):
        """Do the deed as its method does; what this returns."""
        if not has_deed_form(deed):
            raise BadDeed(deed)
        methods = {
            "come": self.come, "bind": self.bind, "life": self.life, "days": self.days,
            "last": self.set_last, "go": self.go, "cut": self.cut, "turn": self.turn,
        }
        numbers = deed[1:]
        method = methods[deed[0]]
        return method(*numbers)

    def do_all(self, deeds):
        """Do all deeds of a list, or none; the list of what each returned."""
        standing, undone = list(self._standing), list(self._undone)
        told = []
        for position, deed in enumerate(deeds):
            try:
                told.append(self.do(deed))
            except StayError:
                self._standing, self._undone = standing, undone
                raise NotDone(position) from None
        return told

    def deeds(self):
        """The list of the standing deeds."""
        return [deed for deed, _ in self._standing]

    def undo(self):
        """The last standing deed is taken back."""
        if len(self._standing) == 0:
            raise NoDeed("undo")
        self._undone.append(self._standing.pop())

    def redo(self):
        """The deed undone last is done again."""
        if len(self._undone) == 0:
            raise NoDeed("redo")
        self._standing.append(self._undone.pop())

    def mark(self, name):
        """Note the standing deeds by a name."""
        if not is_name(name):
            raise BadMark(name)
        self._marks[name] = list(self._standing)

    def is_marked(self, value):
        """Whether any value is a name by which something is noted."""
        return is_name(value) and value in self._marks

    def _marked(self, name):
        """The steps that were noted by a name."""
        if not self.is_marked(name):
            raise BadMark(name)
        return self._marks[name]

    def back(self, name):
        """Let the deeds that were noted by a name stand again."""
        self._standing = list(self._marked(name))
        self._undone = []

    def fork(self):
        """A desk of its own that stands alike."""
        other = Desk(self._first_net)
        other._standing = list(self._standing)
        other._undone = list(self._undone)
        other._marks = dict(self._marks)
        return other

    def heap(self, kind, *, way=UNIONS):
        """The heap of groups or of rings."""
        check_heap_words(kind, way)
        return heap_of_net(self.net, kind, way)

    def change(self, kind, *, way=UNIONS):
        """The turnover that the last standing deed brought."""
        check_heap_words(kind, way)
        if len(self._standing) == 0:
            raise NoDeed("change")
        elder = heap_of_net(self._net_behind(self._standing[:-1]), kind, way)
        return turnover(elder, heap_of_net(self.net, kind, way))

    def since(self, name, kind, *, way=UNIONS):
        """The turnover since the deeds stood that were noted by a name."""
        elder = self._net_behind(self._marked(name))
        check_heap_words(kind, way)
        return turnover(heap_of_net(elder, kind, way), heap_of_net(self.net, kind, way))

    def tried(self, deed, kind, *, way=UNIONS):
        """The turnover that a deed would bring."""
        other = self.fork()
        other.do(deed)
        check_heap_words(kind, way)
        return turnover(heap_of_net(self.net, kind, way), heap_of_net(other.net, kind, way))

    def window(self, first, end, kind, *, way=UNIONS):
        """The heap of the days first to end alone, places from 0."""
        cut, _, _ = cut_days(self.net, first, end)
        check_heap_words(kind, way)
        return heap_of_net(cut, kind, way)

    def story(self, kind, *, way=UNIONS):
        """The list of the heaps at first and behind each standing deed."""
        check_heap_words(kind, way)
        nets = [self._first_net] + [net for _, net in self._standing]
        return [heap_of_net(net, kind, way) for net in nets]
