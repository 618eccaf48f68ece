"""[25], stage 31: consoles, the lines that they answer, and the desks that they keep."""

import random
import re
import unittest

from staybars.console import Console
from staybars.desk import Desk
from staybars.errors import NoDesk
from staybars.logs import write_log
from staybars.texts import write_net
from tests.desks import Told, Wrong, done, drawn_deed
from tests.helpers import Checks, odd_values
from tests.test_desk import NO_NAMES
from tests.test_desk_heaps import heap_told, turned
from tests.test_logs import net_by_words
from tests.test_netlines import nets_drawn

NAME, NUMBER, KIND, WAY = "([a-z]{1,8})", "(0|[1-9][0-9]{0,8})", "(groups|rings)", "(unions|meets)"
DEED = (
    f"(come {NUMBER} {NUMBER}|bind {NUMBER} {NUMBER} {NUMBER} {NUMBER}|life {NUMBER} {NUMBER} {NUMBER}|days {NUMBER} {NUMBER} {NUMBER}"
    f"|go {NUMBER}|cut {NUMBER}|last {NUMBER}|turn)"
)
SHAPES = [
    f"come {NAME} {NUMBER} {NUMBER}", f"bind {NAME} {NUMBER} {NUMBER} {NUMBER} {NUMBER}", f"life {NAME} {NUMBER} {NUMBER} {NUMBER}",
    f"days {NAME} {NUMBER} {NUMBER} {NUMBER}", f"go {NAME} {NUMBER}", f"cut {NAME} {NUMBER}", f"last {NAME} {NUMBER}", f"turn {NAME}", f"undo {NAME}",
    f"redo {NAME}", f"mark {NAME} {NAME}", f"back {NAME} {NAME}", f"fork {NAME} {NAME}", f"close {NAME}", f"heap {NAME} {KIND} {WAY}",
    f"change {NAME} {KIND} {WAY}", f"since {NAME} {NAME} {KIND} {WAY}", f"try {NAME} {KIND} {WAY} {DEED}", f"window {NAME} {NUMBER} {NUMBER} {KIND} {WAY}",
    f"net {NAME}", f"log {NAME}", "names",
]


def is_right(line):
    """Whether a line is right, by its shape."""
    begun = re.fullmatch(f"open {NAME} (.*)", line)
    if begun:
        return net_by_words(begun.group(2)) is not None
    return any(re.fullmatch(shape, line) for shape in SHAPES)


def heap_words(heap):
    return " ".join(f"{a}-{b}*{often}" for a, b, often in heap) or "-"


def turnover_words(pair):
    return f"gone {heap_words(pair[0])} come {heap_words(pair[1])}"


class Keeper:
    """A console told anew, with desks told anew."""

    def __init__(self):
        self.desks = {}

    def answer(self, line):
        if not isinstance(line, str) or not is_right(line):
            return "? BadWords"
        words = line.split(" ")
        if line == "names":
            return " ".join(sorted(self.desks)) or "-"
        if words[0] == "open":
            self.desks[words[1]] = Told(net_by_words(" ".join(words[2:])))
            return "ok"
        if words[1] not in self.desks:
            return "? NoDesk"
        try:
            told = self.told(self.desks[words[1]], words)
        except Wrong as wrong:
            return "? " + wrong.name
        return "ok" if told is None else str(told)

    def told(self, desk, words):
        word = words[0]
        if word == "fork":
            self.desks[words[2]] = desk.fork()
        elif word == "close":
            del self.desks[words[1]]
        elif word in ("undo", "redo"):
            return getattr(desk, word)()
        elif word in ("mark", "back"):
            return getattr(desk, word)(words[2])
        elif word in ("net", "log"):
            rows = [write_net(desk.net() if word == "net" else desk.first)]
            return "\n".join(rows + [" ".join(map(str, deed)) for deed in (desk.standing if word == "log" else [])])
        elif word in ("heap", "change", "since", "try", "window"):
            return self.asked(desk, words)
        else:
            return desk.do((word,) + tuple(map(int, words[2:])))

    def asked(self, desk, words):
        word, nets = words[0], desk.nets()
        if word == "heap":
            return heap_words(heap_told(nets[-1], *words[2:]))
        if word == "change":
            if len(nets) == 1:
                raise Wrong("NoDeed", "change")
            return turnover_words(turned(heap_told(nets[-2], *words[2:]), heap_told(nets[-1], *words[2:])))
        if word == "since":
            if words[2] not in desk.marks:
                raise Wrong("BadMark", words[2])
            elder = Told(desk.first)
            elder.standing = desk.marks[words[2]]
            return turnover_words(turned(heap_told(elder.net(), *words[3:]), heap_told(nets[-1], *words[3:])))
        if word == "try":
            other = desk.fork()
            other.do((words[4],) + tuple(map(int, words[5:])))
            return turnover_words(turned(heap_told(nets[-1], *words[2:4]), heap_told(other.net(), *words[2:4])))
        first, end = int(words[2]), int(words[3])
        if not first <= end <= nets[-1][0]:
            raise Wrong("BadDays", (first, end))
        heap = heap_told(nets[-1], *words[4:])
        cut = [(max(a, 2 * first) - 2 * first, min(b, 2 * end) - 2 * first) for a, b, often in heap for _ in range(often) if a <= 2 * end and b >= 2 * first]
        return heap_words([(a, b, cut.count((a, b))) for a, b in sorted(set(cut))])


def drawn_line(rng, keeper):
    """A right line, mostly of a desk that is kept."""
    name = rng.choice("abc") if rng.randrange(12) else "zz"
    desk = keeper.desks.get(name, Told((2, ((0, 2),), ())))
    kind, way = rng.choice(["groups", "rings"]), rng.choice(["unions", "meets"])
    deed = [str(abs(word)) if type(word) is int else word for word in drawn_deed(rng, desk.net())]
    choice = rng.randrange(24)
    if choice < 10:
        return " ".join([deed[0], name] + deed[1:])
    lines = [
        f"undo {name}", f"redo {name}", f"mark {name} {rng.choice('abc')}", f"back {name} {rng.choice('abc')}", f"fork {name} {rng.choice('abc')}",
        f"close {name}" if not rng.randrange(3) else "names", f"heap {name} {kind} {way}", f"change {name} {kind} {way}",
        f"since {name} {rng.choice('abc')} {kind} {way}", f"try {name} {kind} {way} " + " ".join(deed),
        f"window {name} {rng.randrange(3)} {rng.randrange(4)} {kind} {way}", f"net {name}", f"log {name}", f"undo {name}",
    ]
    return lines[choice - 10]


class TestAnswers(Checks):
    def test_against_a_console_told_anew(self):
        seen = {}
        for rng, net in nets_drawn(531, 25, 4, 5):
            console, keeper = Console(), Keeper()
            for name in "abc":
                if rng.randrange(5):
                    line = f"open {name} {write_net(net)}"
                    self.assertEqual([console.answer(line), keeper.answer(line)], ["ok", "ok"])
            for _ in range(70):
                line = drawn_line(rng, keeper)
                told, wanted = console.answer(line), keeper.answer(line)
                self.assertEqual(told, wanted, line)
                step = line.split(" ")[0], wanted if wanted.startswith("?") else "told"
                seen[step] = seen.get(step, 0) + 1
                self.assertEqual(console.names(), sorted(keeper.desks))
                for name, desk in keeper.desks.items():
                    self.assertEqual([console.desk(name).net, console.desk(name).deeds()], [desk.net(), desk.standing])
        for word in (
            "come bind life days go cut last turn undo redo mark back fork close heap change since try window net log names"
        ).split():
            self.assertGreater(seen.get((word, "told"), 0), 3, word)
            self.assertTrue(word == "names" or seen.get((word, "? NoDesk"), 0) > 0, word)
        for step in [
            ("come", "? BadNet"), ("bind", "? BadNet"), ("life", "? BadPoint"), ("days", "? BadTie"), ("go", "? PointHeld"), ("undo", "? NoDeed"),
            ("redo", "? NoDeed"), ("back", "? BadMark"), ("since", "? BadMark"), ("change", "? NoDeed"), ("window", "? BadDays"),
        ]:
            self.assertGreater(seen.get(step, 0), 0, step)

    def opened(self):
        console = Console()
        for line in ("open a net 3; point 0 3; point 0 3; point 1 2; tie 0 1 0 1; tie 0 2 1 2; tie 1 2 1 2", "open abcdefgh net 1", "come abcdefgh 0 1"):
            console.answer(line)
        return console

    RIGHT = [
        "come a 0 1", "bind a 0 1 0 0", "life a 2 1 1", "days a 0 1 1", "go a 2", "cut a 0", "last a 4", "turn a", "undo a", "redo a", "mark a b", "back a b",
        "fork a b", "close a", "heap a groups unions", "change abcdefgh rings meets", "since a b groups meets", "try a rings unions cut 0",
        "try a groups meets bind 0 1 2 3", "try a groups unions turn", "window a 0 1 groups unions", "net a", "log a", "names", "open a net 0",
        "open b net 1; point 0 1; point 1 1; tie 0 1 1 1",
    ]

    def test_each_right_line(self):
        for line in self.RIGHT:
            self.assertTrue(is_right(line))
            self.assertNotEqual(self.opened().answer(line), "? BadWords")

    def test_lines_nearly_right(self):
        rng = random.Random(532)
        wrong = 0
        for line in self.RIGHT:
            bents = [line + " ", " " + line, line + "\n", line.replace(" ", "  ", 1), line.upper(), line + " 0", line + " a", line.replace(" ", "\t", 1), line + ";"]
            bents += [" ".join(line.split(" ")[:k]) for k in range(len(line.split(" ")))]
            bents += [" ".join(line.split(" ")[:k] + line.split(" ")[k + 1:]) for k in range(len(line.split(" ")))]
            bents += [" ".join(line.split(" ")[:k] + [word] + line.split(" ")[k + 1:]) for k in range(len(line.split(" "))) for word in (
                "", "00", "01", "-1", "+1", "1000000000", "999999999", "a", "abcdefgh", "abcdefghi", "A", "a1", "groups", "meets", "Rings", "union", "\u0661", "1.0",
            )]
            for _ in range(30):
                at, sign = rng.randrange(len(line)), rng.choice("abz019 ;A-")
                bents += [line[:at] + sign + line[at:], line[:at] + sign + line[at + 1:], line[:at] + line[at + 1:]]
            for bent in bents:
                console = self.opened()
                before = {name: (console.desk(name).net, console.desk(name).deeds()) for name in console.names()}
                right = is_right(bent)
                wrong += not right
                told = console.answer(bent)
                self.assertEqual(told == "? BadWords", not right, bent)
                if told.startswith("?"):
                    self.assertEqual({name: (console.desk(name).net, console.desk(name).deeds()) for name in console.names()}, before)
        self.assertGreater(wrong, 1000)

    def test_bad_words_ahead_of_no_desk_ahead_of_errors(self):
        console = self.opened()
        for line in ("go b 01", "go b", "heap b group unions", "try b groups unions go", "fork b c d", "since b a groups"):
            self.assertEqual(console.answer(line), "? BadWords")
        for line in ("go b 9", "come b 3 0", "heap b groups unions", "since b b groups meets", "back b c", "window b 3 0 groups meets", "close b", "fork b a", "net b"):
            self.assertEqual(console.answer(line), "? NoDesk")
        for line, error in [
            ("go a 9", "BadPoint"), ("go a 0", "PointHeld"), ("come a 3 0", "BadNet"), ("cut a 3", "BadTie"), ("since a b groups meets", "BadMark"),
            ("back a c", "BadMark"), ("window a 3 0 groups meets", "BadDays"), ("window a 0 4 rings meets", "BadDays"), ("undo a", "NoDeed"), ("redo a", "NoDeed"),
            ("change a groups meets", "NoDeed"), ("try a groups meets go 0", "PointHeld"), ("try a groups meets last 2", "BadNet"), ("last a 999999999", "BadNet"),
        ]:
            self.assertEqual(console.answer(line), "? " + error)
        for _ in range(60):
            self.assertEqual(console.answer("turn a"), "ok")
        for line in ("turn a", "come a 0 0", "try a rings meets turn"):
            self.assertEqual(console.answer(line), "? TooMany")
        self.assertEqual(console.answer("go a 0"), "? PointHeld")

    def test_any_value(self):
        console = self.opened()
        for odd in odd_values() + [["names"], ("names",), b"names", {"names": 1}]:
            self.assertEqual(console.answer(odd), "? BadWords")
        self.assertEqual(console.answer("names"), "a abcdefgh")

    def test_known_ones(self):
        console = Console()
        lines = ["names", "open a net 1", "come a 0 1", "come a 0 1", "bind a 0 1 0 0", "heap a groups unions", "change a groups meets"]
        self.assertEqual([console.answer(line) for line in lines], ["-", "ok", "0", "1", "0", "0-2*1 2-2*1", "gone 0-2*1 come 1-2*1"])
        lines = ["try a groups unions cut 0", "go a 1", "heap a rings unions", "go b 1", "go a  1", "net a", "names"]
        self.assertEqual([console.answer(line) for line in lines], [
            "gone 2-2*1 come 0-2*1", "? PointHeld", "-", "? NoDesk", "? BadWords", "net 1; point 0 1; point 0 1; tie 0 1 0 0", "a",
        ])
        lines = ["log a", "since a a groups unions", "mark a a", "since a a rings meets", "window a 1 1 groups meets", "turn a", "undo a", "redo a"]
        self.assertEqual([console.answer(line) for line in lines], [
            "net 1\ncome 0 1\ncome 0 1\nbind 0 1 0 0", "? BadMark", "ok", "gone - come -", "0-0*2", "ok", "ok", "ok",
        ])


class TestKeeping(Checks):
    def test_the_kept_desk_itself(self):
        console = Console()
        console.answer("open a net 1")
        desk = console.desk("a")
        self.assertIs(type(desk), Desk)
        self.assertIs(console.desk(name="a"), desk)
        desk.come(0, 1)
        self.assertEqual([console.answer("net a"), console.answer("come a 0 0"), desk.net[1]], ["net 1; point 0 1", "1", ((0, 1), (0, 0))])
        console.answer("mark a x")
        self.tells(True, desk.is_marked, "x")
        self.assertEqual(console.answer("log a"), write_log(desk))

    def test_open_in_place_of_a_kept_one(self):
        console = Console()
        console.answer("open a net 1")
        console.answer("come a 0 1")
        desk = console.desk("a")
        self.assertEqual([console.answer("open a net 2"), console.answer("log a"), console.names()], ["ok", "net 2", ["a"]])
        self.assertIsNot(console.desk("a"), desk)
        self.assertEqual(desk.net, (1, ((0, 1),), ()))
        self.assertEqual([console.answer("open a net 9"), console.answer("log a")], ["? BadWords", "net 2"])

    def test_forks(self):
        console = Console()
        for line in ("open a net 1", "come a 0 1", "mark a m", "turn a", "undo a", "open b net 3"):
            console.answer(line)
        self.assertEqual([console.answer("fork a b"), console.names()], ["ok", ["a", "b"]])
        self.assertIsNot(console.desk("a"), console.desk("b"))
        self.assertEqual([console.answer("log b"), console.answer("redo b"), console.answer("log a")], ["net 1\ncome 0 1", "ok", "net 1\ncome 0 1"])
        self.assertEqual([console.answer("back b m"), console.answer("redo a"), console.answer("log b")], ["ok", "ok", "net 1\ncome 0 1"])
        desk = console.desk("a")
        self.assertEqual([console.answer("fork a a"), console.answer("come a 0 0")], ["ok", "1"])
        self.assertIsNot(console.desk("a"), desk)
        self.assertEqual([desk.deeds(), console.answer("log a")], [[("come", 0, 1), ("turn",)], "net 1\ncome 0 1\nturn\ncome 0 0"])
        self.assertEqual([console.answer("fork c a"), console.answer("fork a c"), console.names()], ["? NoDesk", "ok", ["a", "b", "c"]])

    def test_close(self):
        console = Console()
        console.answer("open b net 1")
        console.answer("open a net 1")
        desk = console.desk("a")
        self.assertEqual([console.answer("close a"), console.names(), console.answer("close a"), console.answer("net a")], ["ok", ["b"], "? NoDesk", "? NoDesk"])
        desk.turn()
        self.assertEqual([console.answer("close b"), console.answer("names"), console.names()], ["ok", "-", []])

    def test_names_and_whether_one_is_open(self):
        console = Console()
        for name in ("zz", "a", "abcdefgh", "b"):
            self.tells(False, console.is_open, name)
            self.raises(NoDesk, name, console.desk, name)
            console.answer(f"open {name} net 0")
            self.tells(True, console.is_open, name)
        self.assertEqual([console.names(), console.answer("names")], [["a", "abcdefgh", "b", "zz"], "a abcdefgh b zz"])
        console.names().append("c")
        self.assertEqual(console.names(), ["a", "abcdefgh", "b", "zz"])
        for odd in odd_values() + NO_NAMES:
            if odd != "a":
                self.tells(False, console.is_open, odd)
                self.raises(NoDesk, odd, console.desk, odd)

    def test_each_console_keeps_its_own(self):
        one, other = Console(), Console()
        one.answer("open a net 0")
        self.assertEqual([one.names(), other.names()], [["a"], []])
        for name in ("answer", "names", "is_open", "desk"):
            self.assertIn(name, vars(Console))

    def test_done_tells_what_comes(self):
        self.assertEqual(done((1, (), ()), ("come", 0, 1)), ((1, ((0, 1),), ()), 0))


if __name__ == "__main__":
    unittest.main()
