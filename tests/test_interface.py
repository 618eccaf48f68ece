"""[1]: names, kinds, sequences of errors and what is new, looked at for each function of the interface."""

import copy
import inspect
import itertools
import unittest

import staybars.errors
from tests import interface, interface_crossings, interface_desks, interface_forth, interface_papers
from tests.helpers import Checks, odd_values, outcome, shown

CASES = interface.CASES + interface_papers.CASES + interface_crossings.CASES + interface_forth.CASES + interface_desks.CASES
# The errors whose value is no argument, but a number or a word of their own.
NUMBERED = ("BadText", "TooMany", "TooLong", "TooShort", "BadLog", "NotDone", "PointHeld", "NoDeed")


def function_of(case):
    return case.function()


def is_method(case):
    return isinstance(case, interface_desks.MethodCase)


def error_of(step):
    return getattr(staybars.errors, step.error)


def is_whether(case):
    """Whether the function tells of any value whether it is something."""
    return "value" in case.names and case.name.startswith(("is_", "are_"))


def sizes(value):
    """How many lists and dicts stand in a value."""
    if isinstance(value, dict):
        return 1 + sum(sizes(held) for held in value.values())
    if isinstance(value, (list, tuple)):
        return isinstance(value, list) + sum(sizes(held) for held in value)
    return 0


def spoil(value):
    """Change each list and dict within a value."""
    if isinstance(value, (list, tuple)):
        for held in value:
            spoil(held)
    if isinstance(value, list):
        value.append("spoilt")
    if isinstance(value, dict):
        value["spoilt"] = True


class TestInterface(Checks):
    def test_each_stands_in_its_file_with_its_names(self):
        for case in CASES:
            with self.subTest(case.name):
                function = case.defined()
                self.assertTrue(inspect.isfunction(function))
                self.assertEqual(function.__module__, "staybars." + case.module)
                own = ("self",) if is_method(case) else ()
                parameters = inspect.signature(function).parameters
                self.assertEqual(tuple(parameters), own + case.names)
                if is_method(case):
                    for name in case.names:
                        by_name = parameters[name].kind is inspect.Parameter.KEYWORD_ONLY
                        self.assertEqual(by_name, name in case.by_name)
                        self.assertEqual(parameters[name].default, "unions" if by_name else inspect.Parameter.empty)

    def test_arguments_by_place_and_by_name_in_any_sequence(self):
        for case in CASES:
            function = function_of(case)
            for args in case.good:
                with self.subTest(case.name, args=args):
                    told = function(*args)
                    for names in itertools.islice(itertools.permutations(case.names), 24):
                        named = case.named(args)
                        self.assertEqual(function(**{name: named[name] for name in names}), told)

    def test_arguments_stay_as_they_are(self):
        for case in CASES:
            function = function_of(case)
            for args in case.good:
                with self.subTest(case.name, args=args):
                    before = copy.deepcopy(args)
                    function(*args)
                    self.assertEqual(args, before)
                    self.assertEqual(repr(args), repr(before))

    def test_told_lists_and_dicts_are_new(self):
        for case in CASES:
            function = function_of(case)
            for args in case.good:
                with self.subTest(case.name, args=args):
                    told = function(*args)
                    kept = copy.deepcopy(told)
                    spoil(told)
                    if sizes(told):
                        self.assertNotEqual(told, kept)
                    again = function(*args)
                    self.assertEqual(again, kept)
                    self.assertIs(type(again), type(kept))

    def test_one_told_twice_is_not_one_list(self):
        for case in CASES:
            for args in case.good:
                told = function_of(case)(*args)
                if isinstance(told, list):
                    inner = [held for held in told if isinstance(held, (list, dict))]
                    self.assertEqual(len({id(held) for held in inner}), len(inner), case.name)

    def test_each_wrong_value_raises_its_error_with_it(self):
        for case in CASES:
            for step in case.steps:
                for wrong in step.wrong:
                    with self.subTest(case.name, error=step.error, wrong=shown(wrong)):
                        named = {**case.right(), **dict(zip(step.names, wrong))}
                        self.expect(case, step, named)

    def test_the_error_that_is_named_first_is_raised(self):
        for case in CASES:
            for many in range(2, len(case.steps) + 1):
                for steps in itertools.combinations(case.steps, many):
                    with self.subTest(case.name, errors=[step.error for step in steps]):
                        named = case.right()
                        for step in reversed(steps):
                            named.update(dict(zip(step.names, step.wrong[0])))
                        self.expect(case, steps[0], named)

    def expect(self, case, step, named):
        values = step.values(named)
        if isinstance(values[0], interface_desks.Like):
            told, error = outcome(lambda: function_of(case)(**named))
            self.assertEqual([told, type(error)], ["raised", error_of(step)])
            self.assertEqual(error.value, values[0].value)
            self.assertIs(type(error.value), type(values[0].value))
        elif len(values) == 1:
            self.raises(error_of(step), values[0], lambda: function_of(case)(**named))
        else:
            self.raises_tuple(error_of(step), values, lambda: function_of(case)(**named))

    def test_no_value_raises_anything_that_is_not_named(self):
        for case in CASES:
            function = function_of(case)
            for name in case.names:
                # Deeds are described as a list: only what stands in it is any value.
                if name != "deeds":
                    self.odd_values_for(case, function, name)

    def odd_values_for(self, case, function, name):
        """Each odd value as one argument: an answer, or an error named for this or a later one."""
        errors = tuple(error_of(step) for step in case.steps)
        for odd in odd_values():
            for args in case.good[:1]:
                named = {**case.named(args), name: odd}
                with self.subTest(case.name, name=name, odd=shown(odd)):
                    told, answer = outcome(lambda: function(**named))
                    if told == "raised":
                        self.assertIn(type(answer), errors)
                        of_its_own = is_method(case) and type(answer).__name__ == "BadNet"
                        if type(answer).__name__ not in NUMBERED and not of_its_own:
                            self.assertTrue(self.holds_an_argument(answer.value, named))

    def holds_an_argument(self, value, named):
        held = [value] + (list(value) if isinstance(value, tuple) else [])
        arguments = list(named.values())
        for argument in named.values():
            arguments.extend(argument if isinstance(argument, (list, tuple)) else [])
        return any(one is argument for one in held for argument in arguments)

    def test_other_wrong_arguments_raise_whatever_the_value_is(self):
        for case in CASES:
            if is_whether(case):
                for step in case.steps:
                    for odd in odd_values():
                        wrong = dict(zip(step.names, step.wrong[0]))
                        with self.subTest(case.name, error=step.error, odd=shown(odd)):
                            self.expect(case, step, {**case.right(), "value": odd, **wrong})

    def test_whether_any_value_is_tells_true_or_false(self):
        for case in CASES:
            if is_whether(case):
                for args in case.good:
                    for odd in odd_values():
                        self.assertIs(type(function_of(case)(**{**case.named(args), "value": odd})), bool, case.name)


if __name__ == "__main__":
    unittest.main()
