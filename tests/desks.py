"""A desk told anew: a net in lists, changed by deeds as [23] tells them, with all that can be undone."""

from staybars.nets import is_net

WORDS = {"come": 2, "bind": 4, "life": 3, "days": 3, "go": 1, "cut": 1, "last": 1, "turn": 0}


def is_form(value):
    """Whether any value is a deed by its form."""
    if type(value) is not tuple or not value or type(value[0]) is not str or value[0] not in WORDS:
        return False
    return len(value) == WORDS[value[0]] + 1 and all(type(n) is int and 0 <= n <= 999999999 for n in value[1:])


class Wrong(Exception):
    """The name of an error and its value."""

    def __init__(self, name, value):
        Exception.__init__(self, name, value)
        self.name = name
        self.value = value


def number_below(value, many):
    return type(value) is int and 0 <= value < many


def done(net, deed):
    """What comes of a net by a deed whose word is right, and what its method returns."""
    last, points, ties = net[0], list(net[1]), list(net[2])
    word, numbers, told = deed[0], deed[1:], None
    if word in ("life", "go") and not number_below(numbers[0], len(points)):
        raise Wrong("BadPoint", numbers[0])
    if word in ("days", "cut") and not number_below(numbers[0], len(ties)):
        raise Wrong("BadTie", numbers[0])
    if word == "come":
        told = len(points)
        points.append(tuple(numbers))
    elif word == "bind":
        told = len(ties)
        ties.append(tuple(numbers))
    elif word == "life":
        points[numbers[0]] = tuple(numbers[1:])
    elif word == "days":
        ties[numbers[0]] = ties[numbers[0]][:2] + tuple(numbers[1:])
    elif word == "go":
        held = [k for k, tie in enumerate(ties) if numbers[0] in tie[:2]]
        if held:
            raise Wrong("PointHeld", held[0])
        del points[numbers[0]]
        ties = [(one - (one > numbers[0]), other - (other > numbers[0]), first, end) for one, other, first, end in ties]
    elif word == "cut":
        del ties[numbers[0]]
    elif word == "last":
        last = numbers[0]
    else:
        points = [(last - end, last - first) for first, end in points]
        ties = [(one, other, last - end, last - first) for one, other, first, end in ties]
    made = (last, tuple(points), tuple(ties))
    if not is_net(made):
        raise Wrong("BadNet", made)
    return made, told


class Told:
    """A desk by all its standing deeds: the net is worked out from the first one at each look."""

    def __init__(self, net):
        self.first = net
        self.standing = []
        self.undone = []
        self.marks = {}

    def net(self):
        net = self.first
        for deed in self.standing:
            net = done(net, deed)[0]
        return net

    def nets(self):
        nets = [self.first]
        for deed in self.standing:
            nets.append(done(nets[-1], deed)[0])
        return nets

    def do(self, deed):
        """By its method: the form is not looked at."""
        _, told = done(self.net(), deed)
        if len(self.standing) == 60:
            raise Wrong("TooMany", 60)
        self.standing.append(tuple(deed))
        self.undone = []
        return told

    def do_all(self, deeds):
        before = list(self.standing), list(self.undone)
        told = []
        for position, deed in enumerate(deeds):
            try:
                if not is_form(deed):
                    raise Wrong("BadDeed", deed)
                told.append(self.do(deed))
            except Wrong:
                self.standing, self.undone = before
                raise Wrong("NotDone", position) from None
        return told

    def undo(self):
        if not self.standing:
            raise Wrong("NoDeed", "undo")
        self.undone.append(self.standing.pop())

    def redo(self):
        if not self.undone:
            raise Wrong("NoDeed", "redo")
        self.standing.append(self.undone.pop())

    def mark(self, name):
        self.marks[name] = list(self.standing)

    def back(self, name):
        if name not in self.marks:
            raise Wrong("BadMark", name)
        self.standing = list(self.marks[name])
        self.undone = []

    def fork(self):
        other = Told(self.first)
        other.standing, other.undone, other.marks = list(self.standing), list(self.undone), dict(self.marks)
        return other


def drawn_life(rng, low, high, wrong=0.1):
    """A life from low to high, now and then one that is none."""
    if rng.random() < wrong or low > high:
        return rng.randrange(-1, 10), rng.randrange(-1, 10)
    first = rng.randrange(low, high + 1)
    return first, rng.randrange(first, high + 1)


def drawn_number(rng, many, wrong=0.1):
    if rng.random() < wrong or many == 0:
        return rng.choice([-1, many, many + 1, 9])
    return rng.randrange(many)


def drawn_deed(rng, net, wrong=0.1, words=None):
    """A deed that is mostly right for a net."""
    last, points, ties = net
    word = rng.choice(words or ["come"] * 3 + ["bind"] * 5 + ["life", "life", "days", "days", "go", "cut", "last", "turn"])
    if word == "come":
        return (word,) + drawn_life(rng, 0, last, wrong)
    if word == "bind":
        one, other = sorted([drawn_number(rng, len(points), wrong), drawn_number(rng, len(points), wrong)])
        if number_below(one, len(points)) and number_below(other, len(points)):
            low, high = max(points[one][0], points[other][0]), min(points[one][1], points[other][1])
            return (word, one, other) + drawn_life(rng, low, high, wrong)
        return (word, one, other) + drawn_life(rng, 0, last, wrong)
    if word == "life":
        return (word, drawn_number(rng, len(points), wrong)) + drawn_life(rng, 0, last, wrong)
    if word == "days":
        tie = drawn_number(rng, len(ties), wrong)
        if not number_below(tie, len(ties)):
            return (word, tie) + drawn_life(rng, 0, last, wrong)
        one, other = ties[tie][:2]
        return (word, tie) + drawn_life(rng, max(points[one][0], points[other][0]), min(points[one][1], points[other][1]), wrong)
    if word in ("go", "cut"):
        return word, drawn_number(rng, len(points if word == "go" else ties), wrong)
    if word == "last":
        return word, min(8, max([0, last + rng.randrange(-1, 2)])) if rng.random() > wrong else 9
    return (word,)


def method_call(desk, deed):
    """A deed done by its own method."""
    word = "set_last" if deed[0] == "last" else deed[0]
    return getattr(desk, word)(*deed[1:])
