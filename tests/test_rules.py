"""Section 2 of the document: lists and tuples, names, arguments that are not changed, the same call made twice."""

import copy
import unittest

from nextsuch import machines, words
from tests.plain import KNOWN, LISTINGS, ODD_THINGS, WORDS, all_letters, listed, texts_to, thrown_machines

TEXTS = texts_to(2, 2) + [(2, 1, 3, 1), (3, 3, 2, 1, 1, 2)]
MACHINES = [own for _, own, _ in KNOWN] + thrown_machines(7, 24)


def calls_of_words():
    """Calls of words.py, errors among them: the function, its arguments by the names that the interface shows."""
    for text in TEXTS:
        for place in (-1, 0, 1, len(text), len(text) + 1, len(text) + 2):
            for letters in all_letters(3)[::2]:
                yield words.next_place, {"text": text, "place": place, "letters": letters}
                yield words.last_place, {"text": text, "place": place, "letters": letters}
            for far in (0, 2, len(text) + 1, len(text) + 3):
                yield words.between, {"text": text, "near": place, "far": far}
            for change in (("put", place, 3), ("drop", place), ("turn", place, 2)):
                yield words.changed, {"text": text, "change": change}
        for other in TEXTS:
            yield words.shorter, {"one": text, "other": other}


def calls_of_machines():
    """Calls of machines.py, likewise."""
    for at, machine in enumerate(MACHINES):
        wide = len(machine[0][0])
        for function in (machines.wide_of, machines.least, machines.contrary, machines.mirrored, machines.first_taken):
            yield function, {"machine": machine}
        for text in texts_to(wide, 2) + [(1, wide, 1, 1, wide)]:
            yield machines.state_after, {"machine": machine, "text": text}
            yield machines.takes, {"machine": machine, "text": text}
        for other in MACHINES[at::5]:
            yield machines.alike, {"one": machine, "other": other}
            yield machines.parting, {"one": machine, "other": other}
            for word in WORDS:
                yield machines.joined, {"one": machine, "other": other, "word": word}


def calls_with_things():
    """Calls of the functions with a thing: it alone may not be a list where a tuple is stated."""
    for thing in ODD_THINGS + tuple(MACHINES[:4]):
        yield machines.is_machine, {"thing": thing}
        for wide in (1, 2, 3):
            for function in (words.is_text, words.is_letters, words.is_change):
                yield function, {"wide": wide, "thing": thing}


CALLS = list(calls_of_words()) + list(calls_of_machines())
THING_CALLS = list(calls_with_things())


def outcome(function, *given, **named):
    """What a call tells, its kinds at each depth with it; or its error with what this keeps."""
    try:
        return repr(function(*given, **named))
    except (LookupError, ValueError) as error:
        return type(error).__name__, vars(error)


class Calls(unittest.TestCase):
    def test_each_function_is_called(self):
        called = {function.__name__ for function, _ in CALLS + THING_CALLS}
        self.assertEqual(called, {
            "is_text", "is_letters", "is_change", "next_place", "last_place", "between", "changed", "shorter",
            "is_machine", "wide_of", "state_after", "takes", "least", "alike", "joined", "contrary", "mirrored",
            "first_taken", "parting"})

    def test_by_position_and_by_name(self):
        for function, named in CALLS + THING_CALLS:
            told = outcome(function, *named.values())
            self.assertEqual(outcome(function, **named), told, (function, named))
            self.assertEqual(outcome(function, **dict(reversed(named.items()))), told, (function, named))
            first, *rest = named
            self.assertEqual(outcome(function, named[first], **{own: named[own] for own in rest}), told)

    def test_lists_for_tuples_at_any_depth(self):
        for function, named in CALLS:
            told = outcome(function, **named)
            for listing in LISTINGS:
                lists = {name: listed(own, listing) for name, own in named.items()}
                self.assertEqual(outcome(function, **lists), told, (function, lists))
                self.assertEqual(outcome(function, *lists.values()), told, (function, lists))

    def test_lists_for_one_argument_alone(self):
        for function, named in CALLS:
            told = outcome(function, **named)
            for name in named:
                mixed = {**named, name: listed(named[name], LISTINGS[0])}
                self.assertEqual(outcome(function, **mixed), told, (function, mixed))

    def test_arguments_are_left_as_they_were(self):
        for function, named in CALLS + THING_CALLS:
            for listing in LISTINGS[:3]:
                lists = {name: listed(own, listing) for name, own in named.items()}
                ahead = copy.deepcopy(lists)
                outcome(function, **lists)
                self.assertEqual(repr(lists), repr(ahead), function)

    def test_the_same_call_tells_the_same(self):
        first = [outcome(function, **named) for function, named in CALLS + THING_CALLS]
        second = [outcome(function, **named) for function, named in CALLS + THING_CALLS]
        backward = [outcome(function, **named) for function, named in reversed(CALLS + THING_CALLS)]
        self.assertEqual(second, first)
        self.assertEqual(backward[::-1], first)

    def test_results_have_no_list_in_them(self):
        for function, named in CALLS:
            for listing in LISTINGS:
                told = outcome(function, **{name: listed(own, listing) for name, own in named.items()})
                self.assertNotIn("[", told)

    def test_results_do_not_change_with_the_arguments(self):
        machine = [[[1, 0], [0, 1], [2, 0]], [1]]
        told = machines.least(machine), machines.contrary(machine), machines.mirrored(machine)
        ahead = repr(told)
        machine[0][0][0], machine[1][0] = 2, 0
        self.assertEqual(repr(told), ahead)
        text = [1, 2]
        told = words.changed(text, ("turn", 1, 1)), words.between(text, 0, 3)
        text[0] = 3
        self.assertEqual(repr(told), "((1, 2), (1, 2))")

    def test_an_argument_that_changed_is_read_anew(self):
        machine = [[[1, 0], [0, 1]], [1]]
        self.assertEqual(machines.first_taken(machine), (1,))
        machine[1][0] = 0
        self.assertEqual(machines.first_taken(machine), ())
        text = [1, 1]
        self.assertEqual(words.next_place(text, 0, (2,)), 3)
        text[1] = 2
        self.assertEqual(words.next_place(text, 0, (2,)), 2)


class Things(unittest.TestCase):
    def test_true_or_false_is_told_of_all(self):
        for function, named in THING_CALLS:
            self.assertIn(outcome(function, **named), ("True", "False"))

    def test_a_list_is_no_tuple(self):
        for function, named in THING_CALLS:
            if isinstance(named["thing"], tuple):
                lists = {**named, "thing": list(named["thing"])}
                self.assertEqual(outcome(function, **lists), "False", (function, lists))


if __name__ == "__main__":
    unittest.main()
