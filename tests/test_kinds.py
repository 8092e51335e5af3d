"""nextsuch/kinds.py: section 8 of the document, and what section 3 says of kinds and bars."""

import unittest
from itertools import product

from nextsuch.doings import doings, span
from nextsuch.errors import CanNot, TooMuch, Unfit
from nextsuch.kinds import KINDS, bar, is_bar, is_of, kinds, texts_by
from nextsuch.machines import contrary, mirrored
from tests.plain import ODD_THINGS, plain_least, plain_takes, resized, swapped, texts_to, thrown_machines
from tests.plain_doings import (
    AHEAD, BEGINS, EDGES, EVEN, FAT, LAST, ODD, PAIRS, SMALL_KINDS, SOME, SOONER, TEXTS, TWICE, WITH_200, WITH_201,
    WITH_203, is_plain_bar, plain_doing, plain_long, plain_then, plain_two, ring, thrown_in_order)

AGAIN = ("asks", (), (1, 2), (1,), ())
SOME_BAR = ("looks", (), (1,), (2,), ())
ALL_KINDS = ("asks", "backward", "coming", "looks", "onward")
TOLD = SMALL_KINDS


class Examples(unittest.TestCase):
    def test_kinds(self):
        self.assertEqual(
            [kinds(own) for own in (AHEAD, PAIRS, SOONER, EVEN, BEGINS, (((0, 1), (1, 1)), (1,)))],
            [("asks", "backward", "onward"), (), ("asks",), ("looks",), ("asks", "looks", "onward"),
             ("asks", "backward", "coming", "onward")])

    def test_bars(self):
        self.assertEqual(
            (is_bar(PAIRS, AGAIN), is_bar(AHEAD, AGAIN), texts_by(AGAIN, 2)),
            (True, False, ((1, 2, 1, 2, 1, 2, 1, 2), (1, 2, 1, 2, 1, 1, 2, 1, 2))))
        self.assertEqual(
            (is_bar(AHEAD, ("coming", (1, 2), (2, 1))), is_bar(SOONER, ("onward", (), (1,), (2,), (3,))),
             is_bar(BEGINS, ("backward", (), (2,), (1,), (1,)))),
            (True, True, True))
        self.assertEqual(
            (texts_by(("onward", (), (1,), (2,), (3,)), 2), texts_by(("backward", (), (2,), (1,), (1,)), 1)),
            (((1, 2, 1, 2, 3), (1, 2, 1, 2, 1, 3)), ((1, 2, 1), (2, 1, 2, 1))))

    def test_looks(self):
        self.assertEqual(
            (is_bar(SOME, SOME_BAR), is_bar(EVEN, SOME_BAR), texts_by(SOME_BAR, 3), is_bar(PAIRS, bar(PAIRS, "looks"))),
            (True, False, ((1, 1, 1), (1, 2, 1)), True))

    def test_errors(self):
        with self.assertRaises(CanNot) as caught:
            bar(SOONER, "asks")
        self.assertEqual(vars(caught.exception), {})
        with self.assertRaises(Unfit) as caught:
            texts_by(SOME_BAR, 2)
        self.assertEqual(vars(caught.exception), {})


class Kinds(unittest.TestCase):
    def test_by_the_words_of_section_8(self):
        for machine, own, told in TOLD:
            self.assertEqual(repr(kinds(machine)), repr(told), machine)
            for kind in ALL_KINDS:
                self.assertIs(is_of(machine, kind), kind in told, (machine, kind))

    def test_coming_hangs_on_the_letters_that_come_alone(self):
        for machine, own, told in TOLD:
            firsts = {}
            texts = TEXTS[len(own[0][0])]
            same = all(
                firsts.setdefault(frozenset(text), plain_takes(own, text)) == plain_takes(own, text) for text in texts)
            self.assertIs(is_of(machine, "coming"), same, machine)

    def test_onward_never_comes_back_to_a_state_that_it_left(self):
        for machine, own, told in TOLD:
            self.assertIs(is_of(machine, "onward"), never_comes_back(own), machine)
            self.assertIs(is_of(machine, "backward"), never_comes_back(plain_least(mirrored(own))), machine)

    def test_turned_round_and_contrary(self):
        other = {"asks": "asks", "onward": "backward", "backward": "onward", "coming": "coming", "looks": "looks"}
        for machine, own, told in TOLD:
            self.assertEqual(kinds(mirrored(machine)), tuple(sorted(other[kind] for kind in told)))
            self.assertEqual(kinds(contrary(machine)), told)

    def test_which_kinds_are_of_others(self):
        for machine, own, told in TOLD:
            if "coming" in told:
                self.assertLessEqual({"onward", "backward"}, {*told})
            if "onward" in told or "backward" in told:
                self.assertIn("asks", told)

    def test_looks_by_the_ends_and_the_length(self):
        # Of length n, the first and the last letters tell all, if they are long enough.
        for machine, own, told in TOLD:
            wide = len(own[0][0])
            if span(machine) <= 2 and wide < 3:
                size = span(machine)
                same, firsts = True, {}
                for text in texts_to(wide, 4 * size + 1):
                    if len(text) >= 3 * size:
                        key = len(text) % size, text[:size], text[len(text) - 2 * size:]
                        answer = plain_takes(own, text)
                        same = same and firsts.setdefault(key, answer) == answer
                if "looks" in told:
                    self.assertTrue(same, machine)

    def test_one_state(self):
        for machine in EDGES[:8]:
            self.assertEqual(kinds(machine), ALL_KINDS)
            for kind in ALL_KINDS:
                self.assertRaises(CanNot, bar, machine, kind)

    def test_one_letter(self):
        self.assertEqual([kinds(ring(many)) for many in (2, 3, 60)], [("looks",)] * 3)
        line = (((1,), (2,), (3,), (3,)), (1, 3))
        self.assertEqual(kinds(line), ("asks", "backward", "looks", "onward"))


def never_comes_back(own):
    steps = own[0]
    for state in range(len(steps)):
        reached, left = set(), [there for there in steps[state] if there != state]
        while left:
            there = left.pop()
            if there == state:
                return False
            if there not in reached:
                reached.add(there)
                left.extend(steps[there])
    return True


class Bars(unittest.TestCase):
    def test_a_bar_exactly_if_it_is_not_of_the_kind(self):
        for machine, own, told in TOLD:
            for kind in ALL_KINDS:
                if kind in told:
                    self.assertRaises(CanNot, bar, machine, kind)
                else:
                    found = bar(machine, kind)
                    self.assertEqual(found[0], kind)
                    self.assertNotIn("[", repr(found))
                    self.assertTrue(is_plain_bar(machine, found), (machine, found))
                    self.assertIs(is_bar(machine, found), True, (machine, found))

    def test_of_greater_machines(self):
        tried, longest = 0, 0
        for machine in thrown_in_order(22, 300) + thrown_machines(23, 120):
            for kind in ALL_KINDS:
                try:
                    found = bar(machine, kind)
                except (CanNot, TooMuch):
                    continue
                self.assertTrue(is_plain_bar(machine, found), (machine, found))
                tried += 1
                longest = max([longest] + [len(text) for text in found[1:] if kind == "backward"])
        self.assertGreater(tried, 500)
        self.assertGreater(longest, 4)

    def test_of_looks_both_are_as_long_as_the_span(self):
        for machine, own, told in TOLD:
            if "looks" not in told:
                found = bar(machine, "looks")
                self.assertEqual((len(found[2]), len(found[3])), (span(machine), span(machine)))

    def test_its_two_texts_by_number(self):
        for machine, own, told in TOLD:
            for kind in ALL_KINDS:
                if kind not in told:
                    found = bar(machine, kind)
                    for number in (1, 2, 3, 5, 8):
                        if kind != "looks" or number > 2:
                            one, other = texts_by(found, number)
                            self.assertNotEqual(plain_takes(own, one), plain_takes(own, other), (machine, found))

    def test_all_things_of_short_texts(self):
        for machine, own, told in TOLD[::5]:
            texts = texts_to(len(own[0][0]), 1) + [(1,) * 2]
            for given in product(texts, repeat=4):
                for kind in ("onward", "backward", "asks", "looks"):
                    thing = (kind,) + given
                    self.assertIs(is_bar(machine, thing), is_plain_bar(machine, thing), (machine, thing))
                    if is_plain_bar(machine, thing):
                        self.assertNotIn(kind, told)
            for given in product(texts_to(len(own[0][0]), 3), repeat=2):
                thing = ("coming",) + given
                self.assertIs(is_bar(machine, thing), is_plain_bar(machine, thing), (machine, thing))

    def test_great_ones(self):
        long = (1, 2) * 4000
        self.assertIs(is_bar(PAIRS, ("asks", long, (1, 2) * 3000, (1,) + long, ())), True)
        self.assertIs(is_bar(PAIRS, ("asks", long, (1, 2) * 3000, long, ())), False)
        self.assertIs(is_bar(AHEAD, ("coming", (1,) + long, (2,) * 3000 + (1,) * 3000)), True)


class EachConditionAlone(unittest.TestCase):
    def check(self, machine, good, bad):
        self.assertIs(is_bar(machine, good), True, good)
        for thing in bad:
            self.assertIs(is_bar(machine, thing), False, thing)

    def test_coming(self):
        self.check(AHEAD, ("coming", (1, 2), (2, 1)), (
            ("coming", (1, 2), (2, 2)), ("coming", (1, 2), (1, 1, 2)), ("coming", (2, 1), (2, 2, 1)),
            ("coming", (1, 2), ()), ("coming", (1, 2), (2, 1), ()), ("coming", (1, 2))))

    def test_onward(self):
        self.check(SOONER, ("onward", (), (1,), (2,), (3,)), (
            ("onward", (), (1,), (1,), (3,)), ("onward", (), (2,), (1,), (3,)), ("onward", (), (1,), (2,), ()),
            ("onward", (3,), (1,), (2,), (3,)), ("onward", (), (1,), (2,)), ("onward", (), (1,), (2,), (3,), ())))

    def test_it_is_the_state_of_the_least_machine(self):
        # p x y leads to state 2, p to state 0: in the least machine they are one.
        fat = (((1, 2), (2, 1), (1, 2)), (1,))
        self.assertIs(is_bar(fat, ("onward", (), (1,), (1,), ())), is_plain_bar(fat, ("onward", (), (1,), (1,), ())))
        self.assertIs(is_bar(fat, ("onward", (), (1,), (1,), ())), True)

    def test_backward(self):
        self.check(BEGINS, ("backward", (), (2,), (1,), (1,)), (
            ("backward", (), (1,), (2,), (1,)), ("backward", (), (2,), (1,), (2,)), ("backward", (1,), (2,), (1,), (1,)),
            ("backward", (), (2,), (), (1,)), ("backward", (), (2,), (2,), (1,))))

    def test_from_just_the_states(self):
        # 2 behind 1: y x q is taken from state 0 where q is, yet not from state 1.
        for thing in (("backward", (), (1,), (1,), (2,)), ("backward", (), (2,), (2,), ()), ("backward", (1,), (1,), (), ())):
            for machine in (AHEAD, LAST, SOONER, TWICE, FAT):
                self.assertIs(is_bar(machine, thing), is_plain_bar(machine, thing))

    def test_asks(self):
        self.check(PAIRS, AGAIN, (
            ("asks", (), (1, 2), (1, 2), ()), ("asks", (), (1, 2), (2, 1), (1,)), ("asks", (1, 1), (1, 2), (1,), ()),
            ("asks", (), (1, 2), (), ()), ("asks", (2,), (1, 2), (1,), ())))
        # The doing is not idempotent; the letter 1 is not in it.
        self.check(ODD, ("asks", (), (1, 1), (1,), ()), (
            ("asks", (), (1,), (1, 1), ()), ("asks", (), (1,), (1,), ()), ("asks", (), (2, 2), (1,), ()),
            ("asks", (), (2,), (1,), ()), ("asks", (), (), (1,), ())))

    def test_looks(self):
        self.check(SOME, SOME_BAR, (
            ("looks", (), (), (), ()), ("looks", (), (1,), (1,), ()), ("looks", (2,), (1,), (2,), ()),
            ("looks", (), (1,), (2, 1), ()), ("looks", (), (1, 1), (2,), ()), ("looks", (), (), (2,), ()),
            ("looks", (), (2,), (1,), ())))
        self.check(ODD, ("looks", (), (2,), (1,), ()), (("looks", (), (1,), (2,), ()), ("looks", (), (1,), (1,), ())))

    def test_the_word_is_the_one_said(self):
        words = ("onward", "backward", "asks", "looks", "coming")
        for thing in (AGAIN, SOME_BAR, ("onward", (), (1,), (2,), (3,)), ("backward", (), (2,), (1,), (1,))):
            for word in words:
                for machine in (PAIRS, SOME, SOONER, BEGINS, ODD):
                    other = (word,) + thing[1:]
                    fits = word != "coming" and 3 not in thing[4] + (() if len(machine[0][0]) == 2 else (3, 3))
                    if word == "coming":
                        self.assertIs(is_bar(machine, other), False)
                    elif fits:
                        self.assertIs(is_bar(machine, other), is_plain_bar(machine, other))


class Things(unittest.TestCase):
    GOOD = ((PAIRS, AGAIN), (SOME, SOME_BAR), (SOONER, ("onward", (), (1,), (2,), (3,))),
            (BEGINS, ("backward", (), (2,), (1,), (1,))), (AHEAD, ("coming", (1, 2), (2, 1))))

    def plain(self, machine, thing):
        wide = len(machine[0][0])
        if type(thing) is not tuple or not thing or type(thing[0]) is not str or thing[0] not in ALL_KINDS:
            return False
        if len(thing) != (3 if thing[0] == "coming" else 5):
            return False
        for text in thing[1:]:
            if type(text) is not tuple or any(type(own) is not int or not 1 <= own <= wide for own in text):
                return False
        return is_plain_bar(machine, thing)

    def test_of_every_kind(self):
        for machine, good in self.GOOD:
            self.assertIs(is_bar(machine, good), True)
            for thing in ODD_THINGS + (list(good), tuple(list(own) for own in good), good[0], good[1:], (good,)):
                self.assertIs(is_bar(machine, thing), self.plain(machine, thing), thing)

    def test_one_part_changed(self):
        for machine, good in self.GOOD:
            for thing in [*swapped(good, ODD_THINGS[:48] + (3,) + ALL_KINDS), *resized(good)]:
                self.assertIs(is_bar(machine, thing), self.plain(machine, thing), thing)

    def test_letters_that_the_machine_does_not_read(self):
        self.assertIs(is_bar(PAIRS, ("asks", (3,), (1, 2), (1,), ())), False)
        self.assertIs(is_bar(ring(2), ("asks", (), (1, 1), (1,), ())), True)
        self.assertIs(is_bar(ring(2), ("asks", (), (1, 1), (2,), ())), False)
        self.assertIs(is_bar(ring(2), ("asks", (), (1, 1), (True,), ())), False)

    def test_a_machine_with_more_than_200(self):
        self.assertIs(is_bar(WITH_201, ("coming", (1, 2), (1, 2))), False)
        texts = texts_to(3, 3)
        bars = [("coming", one, other) for one in texts for other in texts if {*one} == {*other}]
        self.assertEqual([is_bar(WITH_201, own) for own in bars], [is_plain_bar(WITH_201, own) for own in bars])
        self.assertIs(is_bar(ring(202), ("asks", (), (1,) * 202, (1,), ())), True)
        self.assertIs(is_bar(ring(202), ("looks", (), (1,) * 202, (1,) * 202, ())), False)


class TextsBy(unittest.TestCase):
    P, X, Y, Q = (1,), (2, 1), (3,), (3, 2)

    def test_each_word_and_number(self):
        p, x, y, q = self.P, self.X, self.Y, self.Q
        for n in (1, 2, 3, 4, 7, 20):
            told = {
                "onward": (p + (x + y) * n + q, p + (x + y) * n + x + q),
                "backward": (p + (y + x) * n + q, p + x + (y + x) * n + q),
                "asks": (p + x * n + x * n + q, p + x * n + y + x * n + q)}
            for word, texts in told.items():
                self.assertEqual(repr(texts_by((word, p, x, y, q), n)), repr(texts))
            self.assertEqual(repr(texts_by(("coming", p, q), n)), repr((p, q)))
            if n >= 3:
                blocks = [x] * n
                blocks[n // 2] = y
                changed = p + tuple(letter for own in blocks for letter in own) + q
                self.assertEqual(repr(texts_by(("looks", p, x, y, q), n)), repr((p + x * n + q, changed)))

    def test_looks_from_three_on(self):
        for n in (1, 2):
            self.assertRaises(Unfit, texts_by, SOME_BAR, n)
        self.assertEqual(texts_by(SOME_BAR, 4), ((1, 1, 1, 1), (1, 1, 2, 1)))
        self.assertEqual(texts_by(SOME_BAR, 5), ((1,) * 5, (1, 1, 2, 1, 1)))

    def test_empty_texts(self):
        for word in ("onward", "backward", "asks", "looks"):
            self.assertEqual(texts_by((word, (), (), (), ()), 3), ((), ()))
        self.assertEqual(texts_by(("coming", (), ()), 1), ((), ()))

    def test_lists(self):
        self.assertEqual(repr(texts_by(["onward", [], [1], [2], [3]], 1)), "((1, 2, 3), (1, 2, 1, 3))")
        self.assertEqual(repr(texts_by(["coming", [1], [1, 1]], 1)), "((1,), (1, 1))")

    def test_just_one_of_both_is_taken(self):
        for machine, good in Things.GOOD:
            for number in (3, 4, 6):
                one, other = texts_by(good, number)
                self.assertNotEqual(plain_takes(machine, one), plain_takes(machine, other))


class Wrong(unittest.TestCase):
    NONE = tuple(own for own in ODD_THINGS) + (
        "ask", "Asks", "asks ", "next", ("asks",), ["asks"], [["asks"]], 0.5, {"asks": 1}, ("onward", "backward"), KINDS)

    def test_what_is_none_of_the_kinds(self):
        for machine in (SOONER, PAIRS, EDGES[0]):
            for thing in self.NONE:
                for function in (is_of, bar):
                    with self.assertRaises(Unfit) as caught:
                        function(machine, thing)
                    self.assertEqual(vars(caught.exception), {})

    def test_unfit_first_of_all_then_too_much(self):
        for machine in (WITH_201, WITH_203, ring(201)):
            for function in (is_of, bar):
                self.assertRaises(Unfit, function, machine, "odd")
                self.assertRaises(Unfit, function, machine, None)
                for kind in ALL_KINDS:
                    with self.assertRaises(TooMuch) as caught:
                        function(machine, kind)
                    self.assertEqual(vars(caught.exception), {})
            self.assertRaises(TooMuch, kinds, machine)

    def test_too_much_ahead_of_can_not(self):
        # It is of "looks", but its span is above 60.
        for kind in ("looks",):
            self.assertRaises(TooMuch, bar, ring(61), kind)
            self.assertRaises(TooMuch, is_of, ring(61), kind)
        self.assertRaises(TooMuch, kinds, ring(61))
        self.assertRaises(CanNot, bar, ring(60), "looks")
        self.assertEqual(kinds(ring(60)), ("looks",))

    def test_a_span_above_60_bars_looks_alone(self):
        for kind in ("asks", "backward", "coming", "onward"):
            self.assertIs(is_of(ring(61), kind), False)
            self.assertTrue(is_plain_bar(ring(61), bar(ring(61), kind)))

    def test_just_200(self):
        self.assertEqual(len(doings(WITH_200)), 200)
        own = plain_least(WITH_200)
        for kind in ALL_KINDS:
            self.assertIs(is_of(WITH_200, kind), False)
            self.assertTrue(is_plain_bar(WITH_200, bar(WITH_200, kind)))
        found = bar(WITH_200, "looks")
        long = plain_long(own, span(WITH_200))
        self.assertIn(plain_doing(own, found[2]), long)
        self.assertEqual(plain_then(plain_doing(own, found[2]), plain_doing(own, found[2])), plain_doing(own, found[2]))
        self.assertNotEqual(*[plain_takes(own, text) for text in plain_two(found)])


if __name__ == "__main__":
    unittest.main()
