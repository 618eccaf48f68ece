"""Stage 11: texts of lines, heaps and nets, written and read back, and texts with one thing bent."""

import random
import unittest

from staybars.bars import is_heap
from staybars.errors import BadHeap, BadLine, BadNet, BadPlaces, BadText
from staybars.lines import is_line
from staybars.nets import is_net
from staybars.texts import kind_of_text, read_heap, read_line, read_net, write_heap, write_line, write_net
from tests.drawn import random_signs
from tests.helpers import Checks, odd_values, shown
from tests.rooms import PRIMES, random_heap, random_line

LINE = "line 5 1; > 2 10; < 1 11; > 0 -; < 2 - -; > 1 0 4"
HEAP = "heap; 0 0 1; 0 2 3; 1 2 2; 2 2 1"
NET = "net 3; point 0 3; point 1 2; point 0 3; tie 0 1 1 2; tie 0 2 0 3; tie 0 2 3 3"


def random_net(rng, points, ties):
    """A net with so many points and as many ties as fit, at most so many."""
    last = rng.randrange(9)
    lives = []
    for _ in range(points):
        first = rng.randrange(last + 1)
        lives.append((first, rng.randrange(first, last + 1)))
    bound = []
    for _ in range(ties if points > 1 else 0):
        other = rng.randrange(1, points)
        one = rng.randrange(other)
        low, high = max(lives[one][0], lives[other][0]), min(lives[one][1], lives[other][1])
        if low <= high:
            first = rng.randrange(low, high + 1)
            bound.append((one, other, first, rng.randrange(first, high + 1)))
    return last, tuple(lives), tuple(bound)


def read_three(text):
    return read_heap(3, text)


def written(value):
    """The text of a line, of a heap of three places or of a net."""
    if is_line(value):
        return write_line(value)
    return write_net(value) if is_net(value) else write_heap(3, value)


def readers():
    """Each way to read, with a right text."""
    return [(read_line, LINE), (read_three, HEAP), (read_net, NET)]


def first_wrong(read, text):
    """The number of the first piece up to which the pieces together are no text, by reading each anew."""
    pieces = text.split("; ")
    for number in range(len(pieces)):
        try:
            read("; ".join(pieces[:number + 1]))
        except BadText:
            return number
    return None


class TestWritten(Checks):
    def test_lines_there_and_back(self):
        rng = random.Random(121)
        for places in range(1, 18):
            for p in PRIMES:
                line = random_line(rng, p, [rng.choice([0, 1, 2, 8]) for _ in range(places)])
                text = write_line(line)
                self.assertEqual(text, self.line_by_words(line))
                self.assertEqual(read_line(text), line)
                self.tells(True, is_line, read_line(text))

    def line_by_words(self, line):
        p, widths, maps = line
        text = "line " + str(p) + " " + str(widths[0])
        for k in range(len(maps)):
            text += "; " + maps[k][0] + " " + str(widths[k + 1])
            for row in maps[k][1]:
                text += " " + ("".join(str(n) for n in row) if row else "-")
        return text

    def test_lines_of_rooms_0_wide(self):
        self.assertEqual(write_line((2, (0,), ())), "line 2 0")
        for places in (2, 17):
            line = (7, (0,) * places, ((">", ()),) * (places - 1))
            self.assertEqual(write_line(line), "line 7 0" + "; > 0" * (places - 1))
            self.assertEqual(read_line(write_line(line)), line)
        self.assertEqual(write_line((3, (2, 0), ((">", ((), ())),))), "line 3 2; > 0 - -")
        self.assertEqual(write_line((3, (0, 2), ((">", ()),))), "line 3 0; > 2")
        self.assertEqual(read_line("line 3 2; < 0"), (3, (2, 0), (("<", ()),)))
        self.assertEqual(read_line("line 7 3; > 2 00 06 60"), (7, (3, 2), ((">", ((0, 0), (0, 6), (6, 0))),)))

    def test_heaps_there_and_back(self):
        rng = random.Random(122)
        for places in range(1, 18):
            self.assertEqual(write_heap(places, ()), "heap")
            self.assertEqual(read_heap(places, "heap"), ())
            for _ in range(5):
                heap = random_heap(rng, places)
                text = write_heap(places, heap)
                self.assertEqual(text, "heap" + "".join("; {} {} {}".format(*pile) for pile in heap))
                self.assertEqual(read_heap(places, text), heap)
                if heap:
                    self.tells(True, is_heap, places, read_heap(places, text))
                    with self.assertRaises(BadText):
                        read_heap(places, text + "; 0 0 9")
        whole = tuple((a, b, 1) for a in range(4) for b in range(a, 4))
        self.assertEqual(read_heap(17, write_heap(17, whole)), whole)

    def test_nets_there_and_back(self):
        rng = random.Random(123)
        for points in range(8):
            for ties in range(10):
                net = random_net(rng, points, ties)
                text = write_net(net)
                self.assertEqual(read_net(text), net)
                self.tells(True, is_net, read_net(text))
        self.assertEqual(write_net((8, (), ())), "net 8")
        full = (2, ((0, 2),) * 7, ((0, 6, 0, 2),) * 9)
        self.assertEqual(write_net(full), "net 2" + "; point 0 2" * 7 + "; tie 0 6 0 2" * 9)
        self.assertEqual(read_net(write_net(full)), full)

    def test_what_is_none_is_not_written(self):
        for odd in odd_values():
            if not is_line(odd):
                self.raises(BadLine, odd, write_line, odd)
            if not is_net(odd):
                self.raises(BadNet, odd, write_net, odd)
            if shown(odd) not in ("()", "((0, 0, 1),)"):
                self.raises(BadHeap, odd, write_heap, 3, odd)
        for places in (0, 18, True, None, "3", -1, 10 ** 40):
            self.raises(BadPlaces, places, write_heap, places, None)


class TestBent(Checks):
    def bad(self, number, read, text):
        self.raises(BadText, number, read, text)

    def test_no_strings(self):
        for odd in odd_values():
            for read, _ in readers():
                self.bad(0, read, odd)
        for value in (b"net 0", ["net 0"], ("heap",), {"line": 1}, None, 0, True):
            for read, _ in readers():
                self.bad(0, read, value)

    def test_places_ahead_of_the_text(self):
        for places in (0, 18, -1, True, False, None, "3", (3,), 10 ** 40):
            self.raises(BadPlaces, places, read_heap, places, None)
            self.raises(BadPlaces, places, read_heap, places, "heap; ")

    def test_the_first_piece(self):
        for read, text in readers():
            word = text.split(";")[0]
            for bent in (
                "", " ", "; ", ";", word + ";", word + " ", " " + word, word.upper(), word.title(), word + " 1", word + "\n",
                "\t" + word, word.replace(" ", "  ") + " ", word + "; " + word, "x" + word, word + "-", "lines 5 1", "net", "line",
            ):
                with self.subTest(bent=bent):
                    number = 1 if bent == word + "; " + word else 0
                    self.bad(number, read, bent)
        for bent in (
            "line 4 1", "line 5 9", "line 5", "line 5 1 1", "line 5 -1", "line 05 1", "line 5 +1", "line 5 01", "line 5 1.0",
            "line 1 5", "line 11 1", "line 5 -", "line >", "line 5 x", "line 5  1", "line 5\t1", "line 5 1 ", "heap", "net 3",
            "line \u0665 1", "line 5 \u00b9", "line 5 \uff11", "line 5 0000000001", "line 5 1000000000", "line 5 " + "1" * 5000,
        ):
            self.bad(0, read_line, bent)
        for bent in ("heap 0", "heaps", "Heap", "heap ", " heap", "heap;0 0 1", "0 0 1", "net 3", "line 5 1", "heap\n"):
            self.bad(0, read_three, bent)
        for bent in ("net 9", "net", "net -1", "net 03", "net 3 3", "net +3", "net 3.", "net \u0663", "net 3;point 0 0", "net x"):
            self.bad(0, read_net, bent)

    def test_blanks(self):
        for read, text in readers():
            self.assertIsNone(first_wrong(read, text))
            for at, sign in enumerate(text):
                if sign == " ":
                    piece = text[:at].count("; ")
                    for bent in (text[:at] + text[at + 1:], text[:at] + " " + text[at:]):
                        with self.subTest(bent=bent):
                            told = first_wrong(read, bent)
                            self.assertIsNotNone(told)
                            self.assertLessEqual(told, piece + 1)
                            self.bad(told, read, bent)
            for bent, number in ((text + " ", text.count("; ")), (" " + text, 0), (text + "\n", text.count("; "))):
                self.bad(number, read, bent)

    def test_pieces_left_out_doubled_or_put_elsewhere(self):
        for read, text in readers():
            pieces = text.split("; ")
            for at in range(len(pieces)):
                for bent in (
                    pieces[:at] + pieces[at + 1:], pieces[:at + 1] + pieces[at:], pieces[:at] + [""] + pieces[at:],
                    pieces[at:at + 1] + pieces[:at] + pieces[at + 1:], pieces[:at] + pieces[at + 1:] + [pieces[at]],
                ):
                    self.same_as_up_to(read, "; ".join(bent))
            self.bad(len(pieces), read, text + "; ")
            self.bad(1, read, text.replace("; ", "; ; ", 1))
            self.bad(0, read, "; " + text)
            self.bad(0, read, text.replace("; ", ";", 1))
            self.bad(0, read, text.replace("; ", " ; ", 1))
            self.bad(1, read, text.replace("; ", ";  ", 1))
            self.bad(0, read, text.replace("; ", ";\n", 1))
            self.bad(0, read, text.replace("; ", ", ", 1))

    def same_as_up_to(self, read, text):
        """The error has the number of the first piece up to which no text is right."""
        number = first_wrong(read, text)
        with self.subTest(text=text):
            if number is None:
                self.assertEqual(written(read(text)), text)
            else:
                self.bad(number, read, text)

    def test_each_sign_exchanged(self):
        for read, text in readers():
            for at in range(len(text)):
                for sign in ("", "9", "x", "-", "+", ">", "<", "0", " ", ";", "\u0661", "\u00b2", "\uff12"):
                    bent = text[:at] + sign + text[at + 1:]
                    self.same_as_up_to(read, bent)
                    self.same_as_up_to(read, text[:at] + sign + text[at:])
                    if sign in ("x", "+", "\u0661", "\u00b2", "\uff12"):
                        self.bad(text[:at].count("; ") if bent.count("; ") == text.count("; ") else first_wrong(read, bent),
                                 read, bent)

    def test_numbers(self):
        for number, bent in [
            (1, "heap; 00 0 1"), (1, "heap; 0 01 1"), (1, "heap; 0 0 01"), (1, "heap; +0 0 1"), (1, "heap; -0 0 1"),
            (1, "heap; 0 0 0"), (1, "heap; 0 0 9"), (1, "heap; 0 3 1"), (1, "heap; 1 0 1"), (1, "heap; 0 0 0000000001"),
            (1, "heap; 0 0 1000000000"), (1, "heap; 0 0 \u0661"), (1, "heap; 0 0 1_0"), (1, "heap; 0 0"), (1, "heap; 0 0 1 1"),
            (1, "heap; 0 0 x"), (1, "heap; 0 0 0x1"), (1, "heap; 0 0 " + "9" * 9), (1, "heap; 0 0 " + "9" * 40000),
            (1, "heap; 0.0 0 1"), (1, "heap; 0 0 1;"), (1, "heap; "), (2, "heap; 0 0 1; "), (1, "heap; 0 0 -1"),
        ]:
            self.bad(number, read_three, bent)
        self.assertEqual(read_heap(3, "heap; 0 0 8"), ((0, 0, 8),))

    def test_heaps(self):
        for places, number, text in [
            (3, 2, "heap; 1 1 1; 0 1 1"), (3, 2, "heap; 0 1 1; 0 1 1"), (3, 3, "heap; 0 1 5; 1 1 3; 1 2 1"),
            (3, 3, "heap; 0 0 1; 0 1 1; 0 0 1; 5 5 5"), (1, 1, "heap; 0 1 1"), (17, 1, "heap; 0 17 1"), (3, 2, "heap; 0 1 1; heap"),
        ]:
            self.raises(BadText, number, read_heap, places, text)
        self.assertEqual(read_heap(3, "heap; 0 1 5; 1 1 3"), ((0, 1, 5), (1, 1, 3)))

    def test_lines(self):
        for number, text in [
            (1, "line 5 1; > 2 15"), (1, "line 5 1; > 2 1"), (1, "line 5 1; > 2 100"), (1, "line 5 1; > 2"), (1, "line 5 1; > 2 10 10"),
            (1, "line 5 1; < 2 10"), (1, "line 5 1; < 2 1"), (1, "line 5 1; < 2 1 1 1"), (1, "line 5 1; = 2 10"), (1, "line 5 1; 2 10"),
            (1, "line 5 1; > 9 100000000"), (1, "line 5 1; > 02 10"), (1, "line 5 1; > 2 -"), (1, "line 5 1; > 0"), (1, "line 5 1; > 0 0"),
            (1, "line 5 1; > 0 --"), (1, "line 5 1; > 0 - -"), (1, "line 5 1; >2 10"), (1, "line 5 1; >"), (1, "line 5 1; > "),
            (1, "line 5 1; > 2 1 0"), (1, "line 5 1; > 2 1\u0660"), (1, "line 5 1; > 2 +1"), (1, "line 5 1; >> 2 10"), (1, "line 5 1; line 5 1"),
            (2, "line 5 1; > 2 10; < 1 1"), (2, "line 2 0; > 1; < 0 -"), (2, "line 2 0; > 1; > 0"), (1, "line 2 1; > 1 2"),
            (1, "line 2 0; > 0 "), (1, "line 2 0; > 1 -"),
        ]:
            self.bad(number, read_line, text)
        seventeen = "line 2 0" + "; > 0" * 16
        self.assertEqual(len(read_line(seventeen)[1]), 17)
        self.bad(17, read_line, seventeen + "; > 0")
        self.bad(17, read_line, seventeen + "; > 0; x")
        self.bad(16, read_line, "line 2 0" + "; > 0" * 15 + "; x; > 0")
        self.bad(17, read_line, "line 2 0" + "; > 0" * 9000)

    def test_nets(self):
        for number, text in [
            (3, "net 3; point 0 3; point 1 2; tie 0 1 1 3"), (2, "net 3; point 0 3; point 0 4"), (1, "net 3; point 2 1"),
            (1, "net 3; tie 0 1 0 0"), (3, "net 3; point 0 3; point 0 3; tie 1 0 0 0"), (3, "net 3; point 0 3; point 0 3; tie 0 0 0 0"),
            (3, "net 3; point 0 3; point 0 3; tie 0 2 0 0"), (4, "net 3; point 0 3; point 0 3; tie 0 1 0 0; point 0 3"),
            (1, "net 3; point 0"), (1, "net 3; point 0 3 3"), (1, "net 3; Point 0 3"), (1, "net 3; points 0 3"), (1, "net 3; point"),
            (3, "net 3; point 0 3; point 0 3; tie 0 1 0"), (3, "net 3; point 0 3; point 0 3; tie 0 1 0 0 0"), (1, "net 3; net 3"),
            (8, "net 0" + "; point 0 0" * 8), (12, "net 0" + "; point 0 0" * 2 + "; tie 0 1 0 0" * 10),
            (8, "net 0" + "; point 0 0" * 8 + "; tie 0 1 0 0"), (4, "net 3; point 0 3; point 0 3; tie 0 1 0 3; tie 0 1 00 3"),
            (1, "net 3; point 0 3;"), (2, "net 3; point 0 3; "), (1, "net 3; 0 3"), (1, "net 3; tie"), (1, "net 3; point 0 3 "),
        ]:
            self.bad(number, read_net, text)
        self.assertEqual(len(read_net("net 0" + "; point 0 0" * 7)[1]), 7)
        self.assertEqual(len(read_net("net 0" + "; point 0 0" * 2 + "; tie 0 1 0 0" * 9)[2]), 9)


class TestKind(Checks):
    def test_kinds(self):
        for word in ("line", "heap", "net"):
            for text in (word, word + " ", word + "; ", word + " of fish", word + "; ; ", word + " " + word, word + "  ", word + " ;"):
                self.assertEqual(kind_of_text(text), word)
            for text in (word + ";", word + "s", word.upper(), " " + word, word + "\n", word + "\t1", word + ",", word + ";x", word[:-1],
                         word + ";;", "; " + word, word + "\u00a0"):
                self.assertIsNone(kind_of_text(text))
        self.assertEqual(kind_of_text("net line"), "net")

    def test_any_value(self):
        for odd in odd_values() + [b"net", ["net"], ("net",), {"net": "net"}]:
            self.assertIsNone(kind_of_text(odd))
        for text in ("net" + " x" * 20000, "line; " + "9" * 49000):
            self.assertIn(kind_of_text(text), ("net", "line"))

    def test_of_what_is_written(self):
        rng = random.Random(124)
        for places in (1, 2, 17):
            signs = random_signs(rng, places)
            self.assertEqual(len(signs), places - 1)
            line = random_line(rng, 5, [rng.randrange(3) for _ in range(places)])
            self.assertEqual(kind_of_text(write_line(line)), "line")
            self.assertEqual(kind_of_text(write_heap(places, random_heap(rng, places))), "heap")
        self.assertEqual(kind_of_text(write_net((0, (), ()))), "net")


if __name__ == "__main__":
    unittest.main()
