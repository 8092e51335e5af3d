"""Section 2 of the document: lists and tuples, names, arguments that are not changed, the same call made twice."""

import copy
import unittest

from nextsuch import classes, doings, machines, words
from tests.calls import CALLS, LIST_FUNCTIONS, THING_CALLS
from tests.plain import LISTINGS, listed
from tests.test_interface import INTERFACE


def outcome(function, *given, **named):
    """What a call tells, its kinds at each depth with it; or its error with what this keeps."""
    try:
        return repr(function(*given, **named))
    except (LookupError, ValueError) as error:
        return type(error).__name__, vars(error)


class Calls(unittest.TestCase):
    def test_each_function_is_called(self):
        called = {(function.__module__, function.__name__) for function, _ in CALLS + THING_CALLS}
        self.assertEqual(called, {
            (module, own.partition("(")[0]) for module, shown in INTERFACE.items() if module != "nextsuch.errors"
            for own in shown})

    def test_by_position_and_by_name(self):
        for function, named in CALLS + THING_CALLS:
            told = outcome(function, *named.values())
            self.assertEqual(outcome(function, **named), told, (function, named))
            self.assertEqual(outcome(function, **dict(reversed(named.items()))), told, (function, named))
            first, *rest = named
            self.assertEqual(outcome(function, named[first], **{own: named[own] for own in rest}), told)

    def test_lists_for_tuples_at_any_depth(self):
        for function, named in CALLS:
            told = outcome(function, **named)
            for listing in LISTINGS:
                lists = {name: listed(own, listing) for name, own in named.items()}
                self.assertEqual(outcome(function, **lists), told, (function, lists))
                self.assertEqual(outcome(function, *lists.values()), told, (function, lists))

    def test_lists_for_one_argument_alone(self):
        for function, named in CALLS:
            told = outcome(function, **named)
            for name in named:
                mixed = {**named, name: listed(named[name], LISTINGS[0])}
                self.assertEqual(outcome(function, **mixed), told, (function, mixed))

    def test_arguments_are_left_as_they_were(self):
        for function, named in CALLS + THING_CALLS:
            for listing in LISTINGS[:3]:
                lists = {name: listed(own, listing) for name, own in named.items()}
                ahead = copy.deepcopy(lists)
                outcome(function, **lists)
                self.assertEqual(repr(lists), repr(ahead), function)

    def test_the_same_call_tells_the_same(self):
        first = [outcome(function, **named) for function, named in CALLS + THING_CALLS]
        second = [outcome(function, **named) for function, named in CALLS + THING_CALLS]
        backward = [outcome(function, **named) for function, named in reversed(CALLS + THING_CALLS)]
        self.assertEqual(second, first)
        self.assertEqual(backward[::-1], first)

    def test_no_result_has_a_list_within(self):
        for function, named in CALLS:
            for listing in LISTINGS:
                told = outcome(function, **{name: listed(own, listing) for name, own in named.items()})
                if function in LIST_FUNCTIONS and isinstance(told, str):
                    self.assertEqual(told[0], "[")
                    told = told[1:]
                self.assertNotIn("[", told)

    def test_a_list_that_is_returned_is_new(self):
        for function, named in CALLS:
            if function in LIST_FUNCTIONS:
                told = outcome(function, **named)
                if isinstance(told, str):
                    function(**named).clear()
                self.assertEqual(outcome(function, **named), told)

    def test_results_do_not_change_with_the_arguments(self):
        machine = [[[1, 0], [0, 1], [2, 0]], [1]]
        told = machines.least(machine), machines.contrary(machine), machines.mirrored(machine)
        ahead = repr(told)
        machine[0][0][0], machine[1][0] = 2, 0
        self.assertEqual(repr(told), ahead)
        text = [1, 2]
        told = words.changed(text, ("turn", 1, 1)), words.between(text, 0, 3)
        text[0] = 3
        self.assertEqual(repr(told), "((1, 2), (1, 2))")

    def test_an_argument_that_changed_is_read_anew(self):
        machine = [[[1, 2], [2, 0], [2, 2]], [0]]
        self.assertEqual((len(doings.doings(machine)), classes.most_falls(machine)), (6, 2))
        machine[0][1][1] = 1
        self.assertEqual((len(doings.doings(machine)), classes.most_falls(machine)), (2, 1))
        machine = [[[1, 0], [0, 1]], [1]]
        self.assertEqual(machines.first_taken(machine), (1,))
        machine[1][0] = 0
        self.assertEqual(machines.first_taken(machine), ())
        text = [1, 1]
        self.assertEqual(words.next_place(text, 0, (2,)), 3)
        text[1] = 2
        self.assertEqual(words.next_place(text, 0, (2,)), 2)


class Things(unittest.TestCase):
    def test_true_or_false_is_told_of_all(self):
        for function, named in THING_CALLS:
            self.assertIn(outcome(function, **named), ("True", "False"))

    def test_a_list_is_no_tuple(self):
        for function, named in THING_CALLS:
            if isinstance(named["thing"], tuple):
                lists = {**named, "thing": list(named["thing"])}
                self.assertEqual(outcome(function, **lists), "False", (function, lists))


if __name__ == "__main__":
    unittest.main()
