"""[24], stage 30: logs of desks, written and read, and the accounts of their heaps."""

import random
import unittest

from staybars.desk import Desk
from staybars.errors import BadKind, BadLog, BadWay, NoDeed
from staybars.logs import account_of, common_rows, is_account, is_log, read_log, write_log
from staybars.texts import write_net
from tests.desks import Told, Wrong, done
from tests.helpers import Checks, odd_values, outcome
from tests.test_desk_heaps import BOTH, NO_KINDS, drawn_desks, heap_told
from tests.test_netlines import NO_WAYS
from tests.test_nets import TRIP

LOG = "net 1\ncome 0 1\ncome 0 1\nbind 0 1 0 0"


def told_row(deed):
    return " ".join([deed[0]] + [str(number) for number in deed[1:]])


def bent_logs(rng, log):
    """The log with one sign changed, left out or put in."""
    for _ in range(40):
        at = rng.randrange(len(log) + 1)
        sign = rng.choice("0123456789  \n\n;abcdefgilmnoprstuvy\r\t-")
        yield log[:at] + sign + log[at:]
        yield log[:at] + sign + log[at + 1:]
        yield log[:at] + log[at + 1:]


def first_wrong_row(text):
    """The number of the first row that cannot stand, None if there is none, by the words of [24]."""
    rows = text.split("\n")
    net = net_by_words(rows[0])
    if net is None:
        return 0
    for number, row in enumerate(rows[1:], 1):
        words = row.split(" ")
        try:
            deed = (words[0],) + tuple(whole(word) for word in words[1:])
            if None in deed or told_row(deed) != row or words[0] not in ("come", "bind", "life", "days", "go", "cut", "last", "turn"):
                return number
            if len(deed) != {"come": 3, "bind": 5, "life": 4, "days": 4, "go": 2, "cut": 2, "last": 2, "turn": 1}[words[0]] or number > 60:
                return number
            net = done(net, deed)[0]
        except Wrong:
            return number
    return None


def whole(word):
    """The number that a word tells, at most nine digits without a 0 ahead."""
    if not 1 <= len(word) <= 9 or any(sign not in "0123456789" for sign in word) or (len(word) > 1 and word[0] == "0"):
        return None
    return int(word)


def net_by_words(row):
    """The net of a row, None if it is no net's text."""
    net = [None, (), ()]
    for number, piece in enumerate(row.split("; ")):
        words = piece.split(" ")
        numbers = tuple(whole(word) for word in words[1:])
        if None in numbers or (words[0], len(words)) not in (("net", 2), ("point", 3), ("tie", 5)) or (words[0] == "net") != (number == 0):
            return None
        if words[0] == "net":
            net[0] = numbers[0]
        elif words[0] == "point":
            if net[2]:
                return None
            net[1] += (numbers,)
        else:
            net[2] += (numbers,)
    try:
        return done(tuple(net), ("last", net[0]))[0]
    except Wrong:
        return None


class TestLogs(Checks):
    def test_there_and_back(self):
        for _, desk, model in drawn_desks(521, 40, 5, 7, 12):
            log = write_log(desk)
            self.assertEqual(log, "\n".join([write_net(model.first)] + [told_row(deed) for deed in model.standing]))
            self.tells(True, is_log, log)
            other = read_log(log)
            self.assertIs(type(other), Desk)
            self.assertEqual([other.net, other.first, other.deeds()], [desk.net, desk.first, desk.deeds()])
            self.assertEqual(write_log(other), log)

    def test_without_undone_deeds_and_marks(self):
        desk = Desk(TRIP)
        desk.mark("a")
        desk.turn()
        desk.come(0, 0)
        desk.undo()
        self.assertEqual(write_log(desk), write_net(TRIP) + "\nturn")
        other = read_log(write_log(desk))
        self.tells(False, other.is_marked, "a")
        self.assertIs(type(outcome(other.redo)[1]), NoDeed)
        other.undo()
        self.assertEqual([other.net, desk.deeds()], [TRIP, [("turn",)]])

    def test_each_call_reads_a_desk_of_its_own(self):
        one, other = read_log(LOG), read_log(LOG)
        one.turn()
        self.assertEqual([len(one.deeds()), len(other.deeds())], [4, 3])

    def test_rows_with_one_sign_bent(self):
        rng = random.Random(522)
        seen = {}
        for _, desk, _ in drawn_desks(523, 25, 4, 5, 6):
            log = write_log(desk)
            for bent in bent_logs(rng, log):
                wanted = first_wrong_row(bent)
                seen[wanted] = seen.get(wanted, 0) + 1
                self.tells(wanted is None, is_log, bent)
                if wanted is None:
                    self.assertEqual(write_log(read_log(bent)), bent)
                else:
                    self.raises(BadLog, wanted, read_log, bent)
        self.assertTrue(all(seen.get(row, 0) > 20 for row in (None, 0, 1, 2, 3)), seen)

    def test_newlines_and_empty_texts(self):
        for text, row in [
            ("", 0), ("\n", 0), ("net 1\n", 1), ("net 1\n\n", 1), ("net 1\nturn\n", 2), ("\nnet 1", 0), ("net 1\n\nturn", 1), (LOG + "\n", 4), ("net 1\r", 0),
            ("net 1\rturn", 0), ("net 1\nturn\r\nturn", 1), ("net 1\x0bturn", 0), ("net 1\u2028turn", 0), ("net 1\nturn ", 1), (" net 1", 0), ("net 1\n turn", 1),
            ("net 1\ncome 0  1", 1), ("net 1\ncome 00 1", 1), ("net 1\ncome 0 01", 1), ("net 1\ncome +0 1", 1), ("net 1\ncome 0 1;", 1), ("net 1; turn", 0),
            ("net 1\ncome 0 1 0", 1), ("net 1\ncome 0", 1), ("net 1\nCome 0 1", 1), ("net 1\nset_last 1", 1), ("net 1\nundo", 1), ("net 1\nnet 1", 1),
            ("net 1\ncome 0 2", 1), ("net 1\ngo 0", 1), ("net 1\ncut 0", 1), ("net 1\nlast 9", 1), (LOG + "\ngo 1", 4), ("net 1\nturn 0", 1), ("turn", 0),
            ("net 1\ncome 0 \u0661", 1), ("net 1\ncome 1000000000 1", 1), ("net 1\ncome 999999999 1", 1), ("line 2 0", 0), ("heap", 0), ("net 9", 0),
        ]:
            self.raises(BadLog, row, read_log, text)
            self.raises(BadLog, row, account_of, text, None, None)
            self.raises(BadLog, row, is_account, text, None, None, None)
            self.raises(BadLog, row, common_rows, text, None)
            self.raises(BadLog, row, common_rows, LOG, text)
            self.tells(False, is_log, text)

    def test_60_rows_and_61(self):
        log = "net 1" + "\nturn" * 60
        self.assertEqual(len(read_log(log).deeds()), 60)
        self.raises(BadLog, 61, read_log, log + "\nturn")
        self.tells(False, is_log, log + "\nturn")

    def test_any_value(self):
        for odd in odd_values() + [b"net 1", ["net 1"], ("net 1",)]:
            if not isinstance(odd, str):
                self.raises(BadLog, 0, read_log, odd)
                self.raises(BadLog, 0, account_of, odd, None, None)
                self.raises(BadLog, 0, is_account, odd, None, None, None)
                self.raises(BadLog, 0, common_rows, odd, LOG)
                self.raises(BadLog, 0, common_rows, LOG, odd)
            self.tells(False, is_log, odd)
        self.raises(BadLog, 1, common_rows, "net 1\n", "")
        self.tells(True, is_log, "net 0")


class TestAccounts(Checks):
    def test_the_heaps_at_first_and_behind_each_deed(self):
        for rng, desk, model in drawn_desks(524, 8, 4, 6, 6):
            log = write_log(desk)
            for kind, way in BOTH:
                told = account_of(log, kind, way)
                self.assertEqual([type(told), told], [list, [heap_told(net, kind, way) for net in model.nets()]])
                self.assertEqual(told, desk.story(kind, way=way))
                self.tells(True, is_account, log, kind, way, told)
                self.tells(True, is_account, log, kind, way, list(told))
                for bent in (told[:-1], told + [()], tuple(told), told[:-1] + [told[-1] + ((0, 0, 1),)], told[:-1] + [list(told[-1])], told[:-1] + [None]):
                    self.tells(False, is_account, log, kind, way, bent)

    def test_kinds_are_strict(self):
        heaps = [(), ((0, 2, 1),), ((0, 2, 2),), ((0, 2, 1), (2, 2, 1))]
        self.tells(True, is_account, LOG, "groups", "unions", heaps)
        for bent in [
            heaps[:1] + [((False, 2, 1),)] + heaps[2:], heaps[:1] + [((0, 2, True),)] + heaps[2:], heaps[:1] + [([0, 2, 1],)] + heaps[2:],
            heaps[:1] + [[(0, 2, 1)]] + heaps[2:], heaps[:3] + [((2, 2, 1), (0, 2, 1))], tuple(heaps), {k: heap for k, heap in enumerate(heaps)}, [[]] + heaps[1:],
            heaps[::-1], heaps[:3], heaps + [()], [None] * 4, "()()", [(), ((0, 2),), ((0, 2, 2),), ((0, 2, 1), (2, 2, 1))], [()] * 4, [0] * 4, ["", "", "", ""],
            [{}] + heaps[1:], heaps[:1] + [((0, "2", 1),)] + heaps[2:], heaps[:1] + [((0, 2, 1, 1),)] + heaps[2:], heaps[:1] + [((0, 2, (1,)),)] + heaps[2:],
        ] + odd_values():
            self.tells(False, is_account, LOG, "groups", "unions", bent)
        self.tells(False, is_account, LOG, "groups", "meets", heaps)
        self.tells(True, is_account, LOG, "rings", "meets", [(), (), (), ()])

    def test_errors_in_their_sequence(self):
        for kind in NO_KINDS:
            self.raises(BadKind, kind, account_of, LOG, kind, None)
            self.raises(BadKind, kind, is_account, LOG, kind, None, None)
        for way in NO_WAYS:
            self.raises(BadWay, way, account_of, LOG, "rings", way)
            self.raises(BadWay, way, is_account, LOG, "rings", way, None)

    def test_new_lists(self):
        told = account_of(LOG, "groups", "meets")
        told.append(None)
        self.assertEqual(account_of(LOG, "groups", "meets"), [(), ((0, 2, 1),), ((0, 2, 2),), ((0, 2, 1), (1, 2, 1))])


class TestCommonRows(Checks):
    def test_of_desks_that_part(self):
        seen = set()
        for rng, desk, model in drawn_desks(525, 40, 3, 4, 6):
            other = desk.fork()
            for _ in range(rng.randrange(4)):
                outcome(other.undo)
            for _ in range(rng.randrange(3)):
                other.turn() if len(other.deeds()) < 60 else None
            logs = write_log(desk), write_log(other)
            one, two = desk.deeds(), other.deeds()
            many = 0
            while many < min(len(one), len(two)) and one[many] == two[many]:
                many += 1
            seen.add((many == len(one), many == len(two)))
            self.assertEqual([common_rows(*logs), common_rows(*logs[::-1]), common_rows(logs[0], logs[0])], [many, many, len(one)])
        self.assertEqual(len(seen), 4)

    def test_known_ones(self):
        self.assertEqual([common_rows(LOG, "net 1\ncome 0 1\nturn"), common_rows(LOG, "net 2"), common_rows(LOG, "net 1")], [1, None, 0])
        # The same net behind other deeds is no same row; rows behind the first unlike ones do not count.
        self.assertEqual(common_rows("net 0\nturn\ncome 0 0", "net 0\nlast 0\ncome 0 0"), 0)
        self.assertEqual(common_rows("net 1; point 0 1", "net 1\ncome 0 1"), None)


if __name__ == "__main__":
    unittest.main()
