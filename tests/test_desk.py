"""[23], stage 29: desks, their deeds one by one, what is undone and what is noted."""

import random
import unittest

from staybars.desk import Desk, is_deed
from staybars.errors import BadDeed, BadMark, BadNet, BadPoint, BadTie, NoDeed, NotDone, PointHeld, TooMany
from staybars.nets import is_net
from tests.desks import Told, Wrong, WORDS, drawn_deed, is_form, method_call
from tests.helpers import Checks, odd_values, outcome
from tests.test_netlines import nets_drawn
from tests.test_nets import FULL, TRIP

METHODS = """come bind life days set_last go cut turn do do_all deeds undo redo mark back is_marked fork heap change since tried window
story""".split()
NO_NAMES = [None, True, 0, "", "A", "abcdefghi", "a b", "a1", " a", "a ", "a\n", ["a"], ("a",), {}, 10 ** 40, "x" * 50000, "\u00e4", "a\u0661"]


def wrong_by(call):
    """What a model's call tells, or the name of the error and its value."""
    try:
        return "told", call()
    except Wrong as wrong:
        return wrong.name, wrong.value


class TestDeeds(Checks):
    def standing(self, desk, model):
        """The desk stands as the model does."""
        self.assertEqual([desk.net, desk.first, desk.deeds()], [model.net(), model.first, model.standing])
        for name in ("a", "b", "c"):
            self.tells(name in model.marks, desk.is_marked, name)

    def both(self, call, told_call):
        """Both tell the same, or raise the same error with the same value."""
        told, answer = outcome(call)
        wanted, value = wrong_by(told_call)
        if wanted == "told":
            self.assertEqual([told, answer, type(answer)], ["told", value, type(value)])
        else:
            self.assertEqual([told, type(answer).__name__], ["raised", wanted])
            self.assertEqual([answer.value, type(answer.value)], [value, type(value)])
        return wanted

    def act(self, rng, desk, model):
        """One thing drawn, done with both."""
        kind = rng.randrange(16)
        name = rng.choice("abc")
        if kind < 4:
            deed = drawn_deed(rng, model.net())
            return deed[0], self.both(lambda: method_call(desk, deed), lambda: model.do(deed))
        if kind < 8:
            deed = drawn_deed(rng, model.net())
            if not is_form(deed):
                self.raises(BadDeed, deed, desk.do, deed)
                return "do", "BadDeed"
            return "do", self.both(lambda: desk.do(deed), lambda: model.do(deed))
        if kind < 10:
            deeds = [drawn_deed(rng, model.net(), 0.03) for _ in range(rng.randrange(4))]
            return "do_all", self.both(lambda: desk.do_all(deeds), lambda: model.do_all(deeds))
        if kind < 12:
            return "undo", self.both(desk.undo, model.undo)
        if kind < 14:
            return "redo", self.both(desk.redo, model.redo)
        if kind == 14:
            return "mark", self.both(lambda: desk.mark(name), lambda: model.mark(name))
        return "back", self.both(lambda: desk.back(name), lambda: model.back(name))

    def test_against_a_desk_told_anew(self):
        seen = {}
        for rng, net in nets_drawn(491, 60, 3, 3):
            desk, model = Desk(net), Told(net)
            for _ in range(60):
                step = self.act(rng, desk, model)
                seen[step] = seen.get(step, 0) + 1
                self.standing(desk, model)
        for word in WORDS:
            self.assertGreater(seen.get((word, "told"), 0), 5, word)
        for step in [
            ("come", "BadNet"), ("bind", "BadNet"), ("life", "BadNet"), ("life", "BadPoint"), ("days", "BadNet"), ("days", "BadTie"), ("last", "BadNet"),
            ("go", "PointHeld"), ("go", "BadPoint"), ("cut", "BadTie"), ("do_all", "NotDone"), ("do_all", "told"), ("undo", "NoDeed"), ("redo", "told"),
            ("redo", "NoDeed"), ("back", "told"), ("back", "BadMark"), ("do", "BadNet"), ("do", "BadDeed"),
        ]:
            self.assertGreater(seen.get(step, 0), 0, step)

    def test_forks(self):
        for rng, net in nets_drawn(492, 12, 3, 3):
            pairs = [(Desk(net), Told(net))]
            for _ in range(50):
                desk, model = rng.choice(pairs)
                if rng.randrange(8) == 0 and len(pairs) < 4:
                    pairs.append((desk.fork(), model.fork()))
                    self.assertIs(type(pairs[-1][0]), Desk)
                else:
                    self.act(rng, desk, model)
                for each in pairs:
                    self.standing(*each)
            for desk, model in pairs:
                while model.undone:
                    self.both(desk.redo, model.redo)
                    self.standing(desk, model)
                for name in sorted(model.marks):
                    self.both(lambda: desk.back(name), lambda: model.back(name))
                    self.standing(desk, model)

    def test_each_deed_by_its_method_and_by_do(self):
        for deed, net in [
            (("come", 1, 2), (3, TRIP[1] + ((1, 2),), TRIP[2])), (("bind", 0, 1, 2, 3), (3, TRIP[1], TRIP[2] + ((0, 1, 2, 3),))),
            (("life", 2, 0, 2), (3, ((0, 3), (0, 3), (0, 2)), TRIP[2])), (("days", 1, 1, 1), (3, TRIP[1], (TRIP[2][0], (0, 2, 1, 1), TRIP[2][2]))),
            (("cut", 1), (3, TRIP[1], (TRIP[2][0], TRIP[2][2]))), (("last", 5), (5,) + TRIP[1:]),
            (("turn",), (3, ((0, 3), (0, 3), (1, 2)), ((0, 1, 2, 3), (0, 2, 1, 2), (1, 2, 1, 2)))),
        ]:
            told = {"come": 3, "bind": 3}.get(deed[0])
            for call in (lambda desk: method_call(desk, deed), lambda desk: desk.do(deed), lambda desk: desk.do_all([deed])[0]):
                desk = Desk(TRIP)
                self.assertEqual(call(desk), told)
                self.assertEqual([desk.net, desk.deeds(), desk.first], [net, [deed], TRIP])

    def test_a_point_that_goes_renumbers_the_ties(self):
        net = (1, ((0, 1),) * 5, ((0, 2, 0, 1), (2, 4, 0, 0), (3, 4, 1, 1)))
        desk = Desk(net)
        self.assertIsNone(desk.go(1))
        self.assertEqual(desk.net, (1, ((0, 1),) * 4, ((0, 1, 0, 1), (1, 3, 0, 0), (2, 3, 1, 1))))
        for point, tie in ((0, 0), (1, 0), (2, 2), (3, 1)):
            self.raises(PointHeld, tie, desk.go, point)
        desk.cut(2)
        desk.go(2)
        self.assertEqual(desk.net, (1, ((0, 1),) * 3, ((0, 1, 0, 1), (1, 2, 0, 0))))

    def test_a_deed_that_leaves_the_net_as_it_is_stands_too(self):
        desk = Desk((0, ((0, 0),), ()))
        desk.turn()
        desk.undo()
        desk.life(0, 0, 0)
        desk.set_last(0)
        desk.turn()
        self.assertEqual([desk.net, desk.deeds()], [desk.first, [("life", 0, 0, 0), ("last", 0), ("turn",)]])
        self.raises_word(NoDeed, "redo", desk.redo)

    def raises_word(self, kind, word, call, *args):
        told, error = outcome(lambda: call(*args))
        self.assertEqual([told, type(error), error.value], ["raised", kind, word])

    def test_the_days_the_other_way_twice(self):
        for _, net in nets_drawn(493, 30):
            desk = Desk(net)
            desk.turn()
            desk.turn()
            self.assertEqual(desk.net, net)

    def test_properties_cannot_be_put(self):
        desk = Desk(TRIP)
        for name in ("net", "first"):
            self.assertIsInstance(vars(Desk)[name], property)
            with self.assertRaises(AttributeError):
                setattr(desk, name, TRIP)
        for name in METHODS:
            self.assertTrue(callable(vars(Desk)[name]), name)

    def test_deeds_are_told_in_new_lists(self):
        desk = Desk(TRIP)
        desk.turn()
        desk.deeds().append(("turn",))
        desk.deeds()[0] = None
        self.assertEqual(desk.deeds(), [("turn",)])
        deeds = [("cut", 2), ("go", 2)]
        told = outcome(lambda: desk.do_all(deeds))
        self.assertEqual([told[1].value, deeds], [1, [("cut", 2), ("go", 2)]])
        self.assertEqual(desk.do_all(deeds[:1]), [None])
        deeds[0] = ("turn",)
        self.assertEqual(desk.deeds(), [("turn",), ("cut", 2)])


class TestForms(Checks):
    def test_each_word_and_how_many_integers(self):
        for word, many in WORDS.items():
            for count in range(6):
                for number in (0, 1, 999999999):
                    self.tells(count == many, is_deed, (word,) + (number,) * count)
            for at in range(many):
                for odd in (-1, 10 ** 9, 10 ** 40, True, False, None, "1", (1,), [1], ""):
                    self.tells(False, is_deed, (word,) + (1,) * at + (odd,) + (1,) * (many - at - 1))
            self.tells(False, is_deed, [word] + [1] * many)
            self.tells(False, is_deed, (word.upper(),) + (1,) * many)
        for value in odd_values() + [("set_last", 1), ("undo",), ("turn", ()), "turn", ("", 0), (None,), (["turn"],), (("turn",),), {"turn": 0}]:
            self.tells(False, is_deed, value)
            self.raises(BadDeed, value, Desk(TRIP).do, value)

    def test_a_form_alone_is_no_deed_that_can_be_done(self):
        desk = Desk(TRIP)
        for deed, kind in [
            (("come", 3, 2), BadNet), (("go", 999999999), BadPoint), (("cut", 3), BadTie), (("last", 999999999), BadNet), (("life", 0, 999999999, 0), BadNet),
        ]:
            self.tells(True, is_deed, deed)
            self.assertEqual(type(outcome(lambda: desk.do(deed))[1]), kind)
        self.assertEqual([desk.deeds(), desk.net], [[], TRIP])


class TestErrors(Checks):
    def test_no_nets(self):
        for odd in odd_values():
            if not is_net(odd):
                self.raises(BadNet, odd, Desk, odd)
        self.assertEqual(Desk(net=TRIP).net, TRIP)

    def would_be(self, net, call, *args):
        told, error = outcome(lambda: call(*args))
        self.assertEqual([told, type(error)], ["raised", BadNet])
        self.assertEqual([repr(error.value), type(error.value)], [repr(net), tuple])
        return error.value

    def test_the_tuple_that_would_come(self):
        desk = Desk(TRIP)
        for odd in odd_values():
            for first, end in ((odd, 1), (1, odd), (odd, odd)):
                if not (type(first) is int and type(end) is int and 0 <= first <= end <= 3):
                    value = outcome(lambda: desk.come(first, end))[1]
                    self.assertIs(type(value), BadNet)
                    self.assertIs(value.value[1][-1][0], first)
                    self.assertIs(value.value[1][-1][1], end)
                    self.assertEqual([value.value[1][:-1], value.value[2], len(value.value)], [TRIP[1], TRIP[2], 3])
            self.assertIs(outcome(lambda: desk.bind(0, odd, 9, 9))[1].value[2][-1][1], odd)
            self.assertIs(outcome(lambda: desk.life(2, 2, [odd]))[1].value[1][2][1][0], odd)
            self.assertIs(outcome(lambda: desk.days(1, odd, None))[1].value[2][1][2], odd)
            if odd not in (3, 5, 8) or type(odd) is not int:
                self.assertIs(outcome(lambda: desk.set_last(odd))[1].value[0], odd)
        self.would_be((3, TRIP[1] + ((0, 4),), TRIP[2]), desk.come, 0, 4)
        self.would_be((3, TRIP[1], TRIP[2] + ((1, 0, 0, 0),)), desk.bind, 1, 0, 0, 0)
        self.would_be((3, ((1, 3), (0, 3), (1, 2)), TRIP[2]), desk.life, 0, 1, 3)
        self.would_be((3, TRIP[1], ((0, 1, 0, 1), (0, 2, 0, 2), (1, 2, 1, 2))), desk.days, 1, 0, 2)
        self.would_be((2,) + TRIP[1:], desk.set_last, 2)
        self.would_be((9,) + TRIP[1:], desk.set_last, 9)
        full = Desk(FULL)
        self.would_be((8, FULL[1] + ((0, 1),), FULL[2]), full.come, 0, 1)
        self.would_be((8, FULL[1], FULL[2] + ((0, 1, 0, 1),)), full.bind, 0, 1, 0, 1)
        self.assertEqual([desk.deeds(), full.deeds(), desk.net, full.net], [[], [], TRIP, FULL])

    def test_points_and_ties_first(self):
        desk = Desk(TRIP)
        for odd in odd_values() + [-1, 3]:
            if type(odd) is not int or not 0 <= odd < 3:
                self.raises(BadPoint, odd, desk.life, odd, None, None)
                self.raises(BadPoint, odd, desk.go, odd)
                self.raises(BadTie, odd, desk.days, odd, None, None)
                self.raises(BadTie, odd, desk.cut, odd)
        none = Desk((2, (), ()))
        self.raises(BadPoint, 0, none.go, 0)
        self.raises(BadTie, 0, none.cut, 0)

    def full(self):
        desk = Desk((1, ((0, 1), (0, 1)), ((0, 1, 0, 0),)))
        for _ in range(60):
            desk.turn()
        return desk

    def test_60_deeds_behind_all_other_errors(self):
        desk = self.full()
        before = desk.deeds(), desk.net
        self.assertEqual(len(before[0]), 60)
        for deed in [("come", 0, 0), ("bind", 0, 1, 0, 0), ("life", 0, 0, 1), ("days", 0, 1, 1), ("last", 2), ("cut", 0), ("turn",)]:
            self.raises(TooMany, 60, method_call, desk, deed)
            self.raises(TooMany, 60, desk.do, deed)
            self.raises(TooMany, 60, desk.tried, deed, None)
            self.assertEqual(outcome(lambda: desk.do_all([deed]))[1].value, 0)
        self.raises(BadPoint, 2, desk.life, 2, 0, 0)
        self.raises(PointHeld, 0, desk.go, 0)
        self.raises(BadTie, 1, desk.cut, 1)
        self.raises(BadDeed, ("turn", 0), desk.do, ("turn", 0))
        self.assertIs(type(outcome(lambda: desk.come(1, 0))[1]), BadNet)
        self.assertIs(type(outcome(lambda: desk.set_last(9))[1]), BadNet)
        self.assertEqual((desk.deeds(), desk.net), before)
        desk.undo()
        desk.cut(0)
        self.raises(TooMany, 60, desk.go, 0)
        self.assertEqual([len(desk.deeds()), desk.net[2]], [60, ()])
        desk.undo()
        desk.redo()
        self.assertEqual(desk.deeds()[-1], ("cut", 0))

    def test_all_or_none_at_60(self):
        desk = self.full()
        desk.undo()
        desk.undo()
        before = desk.deeds(), desk.net
        self.raises(NotDone, 2, desk.do_all, [("turn",)] * 3)
        self.assertEqual((desk.deeds(), desk.net), before)
        desk.redo()
        desk.redo()
        self.raises(NotDone, 0, desk.do_all, [("turn",)])
        self.assertEqual(desk.do_all([]), [])

    def test_undone_deeds_of_a_call_that_did_nothing(self):
        desk = Desk(TRIP)
        desk.turn()
        desk.come(0, 0)
        desk.undo()
        self.assertEqual(desk.do_all([]), [])
        for deeds, position in (([("turn",), ("go", 9)], 1), ([None], 0), ([("cut", 0), ("cut", 0), ("cut", 0), ("cut", 0)], 3)):
            self.raises(NotDone, position, desk.do_all, deeds)
            self.assertEqual(desk.deeds(), [("turn",)])
        for call, args in ((desk.come, (9, 9)), (desk.go, (0,)), (desk.do, (None,)), (desk.back, ("a",)), (desk.mark, ("A",)), (desk.tried, (("turn",), "groups"))):
            outcome(lambda: call(*args))
        self.assertIsNone(desk.redo())
        self.assertEqual(desk.deeds(), [("turn",), ("come", 0, 0)])
        self.assertEqual(desk.do_all([("turn",)]), [None])
        self.assertIs(type(outcome(desk.redo)[1]), NoDeed)

    def test_what_forgets_the_undone(self):
        for deed in [("come", 0, 0), ("bind", 0, 1, 0, 0), ("life", 2, 1, 2), ("days", 0, 1, 1), ("last", 3), ("cut", 0), ("turn",)]:
            for call in (lambda desk: method_call(desk, deed), lambda desk: desk.do(deed), lambda desk: desk.do_all([deed])):
                desk = Desk(TRIP)
                desk.turn()
                desk.undo()
                call(desk)
                self.assertIs(type(outcome(desk.redo)[1]), NoDeed)
        desk = Desk(TRIP)
        desk.mark("a")
        desk.turn()
        desk.undo()
        desk.mark("b")
        self.assertIsNone(desk.redo())
        desk.undo()
        desk.back("a")
        self.assertEqual([type(outcome(desk.redo)[1]), type(outcome(desk.undo)[1])], [NoDeed, NoDeed])

    def test_marks(self):
        desk = Desk(TRIP)
        for name in NO_NAMES:
            self.raises(BadMark, name, desk.mark, name)
            self.raises(BadMark, name, desk.back, name)
            self.raises(BadMark, name, desk.since, name, None)
            self.tells(False, desk.is_marked, name)
        for name in ("a", "z", "abcdefgh", "qqqqqqqq"):
            self.raises(BadMark, name, desk.back, name)
            self.assertIsNone(desk.mark(name))
            self.tells(True, desk.is_marked, name)
        desk.turn()
        desk.mark("a")
        desk.cut(0)
        desk.back("z")
        self.assertEqual([desk.deeds(), desk.net], [[], TRIP])
        desk.back("a")
        self.assertEqual(desk.deeds(), [("turn",)])
        desk.undo()
        desk.back("a")
        desk.turn()
        self.assertEqual([desk.deeds(), desk.net], [[("turn",), ("turn",)], TRIP])
        for odd in odd_values():
            self.tells(False, desk.is_marked, odd)

    def test_drawn_names_by_words(self):
        rng = random.Random(494)
        desk = Desk(TRIP)
        for _ in range(200):
            name = "".join(rng.choice("abcxyz`{AZ 09") for _ in range(rng.randrange(11)))
            right = 1 <= len(name) <= 8 and all(97 <= ord(sign) <= 122 for sign in name)
            self.assertEqual(outcome(lambda: desk.mark(name))[0] == "told", right)
            self.tells(right, desk.is_marked, name)


if __name__ == "__main__":
    unittest.main()
