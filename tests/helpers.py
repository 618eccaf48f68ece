"""What several tests share: odd values, and how errors are looked at."""

import unittest


def nested(kind, depth):
    """A list, tuple or dict in another one, so many deep."""
    value = kind()
    for _ in range(depth - 1):
        value = {"a": value} if kind is dict else kind([value])
    return value


def odd_values():
    """Values of every kind, new ones at each call."""
    return [
        None, True, False, 0, 1, 2, 3, 5, 8, 9, 17, 18, -1, -10 ** 40, 10 ** 40, 10 ** 5000,
        "", "0", ">", "<", "unions", "x" * 50000,
        (), (0,), (1,), (True,), (None,), ("0",), ([],), ((),), (0, 0), (0, 1), (1, 0), (0, 1, 1), (9, (), ()),
        ((0, 0, 1),), ((0, 0, True),), ((0, 0),), ((1,),), ((1,), ()), (((1,),),), (2, (0,), ()), (5, (1,), ()),
        [2, [0], []], (2, [0], ()), (2, (0,), []), [0, [], []], (0, [], ()), (True, (), ()),
        [], [0], [1], [()], [(0, 0)], [[0, 0]], [(0, True)], [(1, 0)], [None], [{}],
        {}, {0: 0}, {(0, 0): 0}, {(0, 0): True}, {(False, 0): 1}, {"a": [1]}, {None: None}, {(0, (0, (0,))): 1},
        nested(list, 200), nested(tuple, 200), nested(dict, 200), tuple([0] * 10000), [(0, 0)] * 5000,
    ]


def shown(value):
    """A short text of a value; an integer of very many digits has none."""
    try:
        return repr(value)[:200]
    except ValueError:
        return "with a huge integer"


def outcome(call):
    """What a call returns, or the error that it raises."""
    try:
        return "told", call()
    except Exception as error:
        return "raised", error


class Checks(unittest.TestCase):
    """A test that looks at errors closely."""

    def raises(self, kind, value, call, *args):
        """The call raises just this kind of error, and its value is the very one."""
        told, error = outcome(lambda: call(*args))
        self.assertEqual(told, "raised", f"{kind.__name__} was not raised")
        self.assertIs(type(error), kind)
        if type(value) is int:
            # One integer told twice need not be one object.
            self.assertIs(type(error.value), int)
            self.assertEqual(error.value, value)
        else:
            self.assertIs(error.value, value)

    def raises_tuple(self, kind, values, call, *args):
        """The call raises just this kind of error, and its value is a tuple of the very ones."""
        told, error = outcome(lambda: call(*args))
        self.assertEqual(told, "raised", f"{kind.__name__} was not raised")
        self.assertIs(type(error), kind)
        self.assertIs(type(error.value), tuple)
        self.assertEqual(len(error.value), len(values))
        for held, value in zip(error.value, values):
            self.assertIs(held, value)

    def tells(self, wanted, call, *args):
        """The call tells True or False, as is wanted."""
        told = call(*args)
        self.assertIs(type(told), bool)
        self.assertEqual(told, wanted, shown(args))
