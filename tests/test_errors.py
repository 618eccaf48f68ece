"""Stage 1 and [1]: the classes of errors and the value that each keeps."""

import unittest

import staybars.errors as errors
from tests.helpers import odd_values

NAMES = """BadBar BadBars BadBases BadChain BadCrossing BadDay BadDays BadDeed BadEntries BadEntry BadHeap BadJoining
BadKind BadLine BadLog BadLooks BadMark BadNet BadNumber BadOrder BadPair BadPaper BadPart BadPlace BadPlaces BadPoint
BadPrime BadRanks BadRows BadShift BadSign BadSigns BadStretch BadTable BadText BadTie BadWay BadWidth BadWidths NoDeed
NoDesk NotDone NotForth NotGrowing NotMatching NotThereAndBack NotWithin PointHeld TooLong TooMany TooShort""".split()


class TestErrors(unittest.TestCase):
    def test_stay_error_stands_right_under_value_error(self):
        self.assertEqual(errors.StayError.__bases__, (ValueError,))
        self.assertEqual(errors.StayError.__module__, "staybars.errors")

    def test_each_stands_right_under_stay_error(self):
        self.assertEqual(len(NAMES), 51)
        for name in NAMES:
            with self.subTest(name):
                kind = getattr(errors, name)
                self.assertEqual(kind.__bases__, (errors.StayError,))
                self.assertEqual(kind.__name__, name)
                self.assertEqual(kind.__module__, "staybars.errors")

    def test_there_are_no_others(self):
        held = [name for name in dir(errors) if not name.startswith("_")]
        self.assertEqual(held, sorted(NAMES + ["StayError"]))

    def test_none_is_caught_by_another_one(self):
        for name in NAMES:
            for other in NAMES:
                if name != other:
                    self.assertFalse(issubclass(getattr(errors, name), getattr(errors, other)))

    def test_each_keeps_the_very_thing(self):
        for name in NAMES + ["StayError"]:
            kind = getattr(errors, name)
            for odd in odd_values():
                self.assertIs(kind(odd).value, odd)
                self.assertIs(kind(value=odd).value, odd)

    def test_what_is_kept_is_changed_with_the_thing(self):
        thing = [1]
        error = errors.BadBars(thing)
        thing.append(2)
        self.assertEqual(error.value, [1, 2])

    def test_each_is_made_of_just_one_argument(self):
        for name in NAMES + ["StayError"]:
            kind = getattr(errors, name)
            for args in [(), (1, 2)]:
                with self.assertRaises(TypeError):
                    kind(*args)
            with self.assertRaises(TypeError):
                kind(other=1)

    def test_each_is_caught_as_value_error(self):
        for name in NAMES:
            with self.assertRaises(ValueError):
                raise getattr(errors, name)(1)


if __name__ == "__main__":
    unittest.main()
