"""nextsuch/classes.py: section 7 of the document."""

import unittest

from nextsuch.classes import (
    are_steady, backward_class, both_ways, falls, falls_back, keeping, keeping_back, longest_falling, most_falls,
    most_falls_back, onward_class)
from nextsuch.errors import TooMuch, Unfit
from tests.plain import ODD_THINGS, plain_least, texts_to
from tests.plain_doings import (
    EDGES, PAIRS, SMALL, SOONER, TEXTS, TWICE, WITH_200, WITH_201, WITH_203, classes_by_doing, plain_doing,
    plain_doings, plain_falls, plain_kinds, plain_most_falls, plain_span, plain_then, ring)

OF_DOINGS = (onward_class, backward_class, both_ways, keeping, keeping_back)
OF_MACHINES = (most_falls, most_falls_back, longest_falling, are_steady)

# The machines with their classes of either side, by doing.
SORTED = [(machine, own, told, classes_by_doing(told, False), classes_by_doing(told, True))
          for machine, own, told in SMALL]


def letters_of(own):
    return [(letter, plain_doing(own, (letter,))) for letter in range(1, len(own[0][0]) + 1)]


def plain_keeping(own, classes, doing, back):
    return tuple(letter for letter, x in letters_of(own)
                 if (plain_then(x, doing) if back else plain_then(doing, x)) in classes[doing])


class Examples(unittest.TestCase):
    def test_classes_and_letters(self):
        self.assertEqual(
            (onward_class(PAIRS, (1, 2, 2)), backward_class(PAIRS, (1, 2, 2)), both_ways(PAIRS, (1, 2, 2)),
             keeping(PAIRS, (1, 2, 2)), keeping(PAIRS, (0, 2, 2))),
            (((0, 2, 2), (1, 2, 2)), ((1, 2, 2), (2, 1, 2)), ((1, 2, 2),), (2,), (1,)))
        self.assertEqual(
            (onward_class(SOONER, (1, 1, 2, 3)), keeping(SOONER, (1, 1, 2, 3)), keeping(SOONER, (0, 0, 2, 3)),
             keeping_back(SOONER, (1, 1, 2, 3))),
            (((0, 0, 2, 3), (1, 1, 2, 3)), (1, 2), (1, 2), (1, 2)))

    def test_falls(self):
        self.assertEqual(
            (falls(SOONER, (2, 1, 1, 3, 2)), falls_back(SOONER, (2, 1, 1, 3, 2)), most_falls(SOONER),
             most_falls_back(SOONER), longest_falling(SOONER)),
            ((1, 4), (4, 5), 2, 2, (1, 3)))

    def test_steady(self):
        self.assertEqual(
            (are_steady(SOONER), are_steady(PAIRS), both_ways((((1, 0), (0, 1)), (1,)), (0, 1))),
            (True, False, ((0, 1), (1, 0))))

    def test_error(self):
        with self.assertRaises(Unfit) as caught:
            keeping(PAIRS, (1, 1, 2))
        self.assertEqual(vars(caught.exception), {})


class Classes(unittest.TestCase):
    def test_by_leading_to_and_fro(self):
        for machine, own, told, onward, backward in SORTED:
            for doing in told:
                self.assertEqual(repr(onward_class(machine, doing)), repr(onward[doing]), (machine, doing))
                self.assertEqual(repr(backward_class(machine, doing)), repr(backward[doing]), (machine, doing))
                both = tuple(sorted({*onward[doing]} & {*backward[doing]}))
                self.assertEqual(repr(both_ways(machine, doing)), repr(both))

    def test_keeping(self):
        for machine, own, told, onward, backward in SORTED:
            for doing in told:
                self.assertEqual(repr(keeping(machine, doing)), repr(plain_keeping(own, onward, doing, False)))
                self.assertEqual(repr(keeping_back(machine, doing)), repr(plain_keeping(own, backward, doing, True)))

    def test_a_list_for_a_doing(self):
        self.assertEqual(onward_class(PAIRS, [1, 2, 2]), ((0, 2, 2), (1, 2, 2)))
        self.assertEqual(keeping_back([[[1, 2], [2, 0], [2, 2]], [0]], [1, 2, 2]), keeping_back(PAIRS, (1, 2, 2)))


class Falls(unittest.TestCase):
    def test_letter_by_letter(self):
        for machine, own, told, onward, backward in SORTED:
            for text in TEXTS[len(own[0][0])][::5] + texts_to(len(own[0][0]), 2):
                self.assertEqual(repr(falls(machine, text)), repr(plain_falls(own, onward, text, False)))
                self.assertEqual(repr(falls_back(machine, text)), repr(plain_falls(own, backward, text, True)))

    def test_long_texts(self):
        for machine, own, told, onward, backward in SORTED[::6]:
            wide = len(own[0][0])
            for text in (tuple(1 + at * at % 7 % wide for at in range(60)), tuple(list(told.values())[-1] * 7)):
                self.assertEqual(falls(machine, text), plain_falls(own, onward, text, False))
                self.assertEqual(falls_back(machine, text), plain_falls(own, backward, text, True))

    def test_the_empty_text(self):
        for machine, *_ in SORTED:
            self.assertEqual((falls(machine, ()), falls_back(machine, ())), ((), ()))

    def test_most(self):
        for machine, own, told, onward, backward in SORTED:
            self.assertEqual(repr(most_falls(machine)), repr(plain_most_falls(own, told, onward, False)), machine)
            self.assertEqual(repr(most_falls_back(machine)), repr(plain_most_falls(own, told, backward, True)), machine)
            self.assertLess(most_falls(machine), len({*onward.values()}))
            self.assertLess(most_falls_back(machine), len({*backward.values()}))

    def test_no_text_falls_oftener(self):
        for machine, own, told, onward, backward in SORTED:
            tried = TEXTS[len(own[0][0])]
            self.assertGreaterEqual(most_falls(machine), max(len(falls(machine, text)) for text in tried[::3]))
            self.assertGreaterEqual(most_falls_back(machine), max(len(falls_back(machine, text)) for text in tried[::3]))

    def test_the_least_text_with_so_many(self):
        for machine, own, told, onward, backward in SORTED:
            most, text = most_falls(machine), longest_falling(machine)
            self.assertEqual(len(plain_falls(own, onward, text, False)), most)
            tried = TEXTS[len(own[0][0])]
            plain = next((own_text for own_text in tried
                          if len(plain_falls(own, onward, own_text, False)) == most), None)
            if plain is not None:
                self.assertEqual(repr(text), repr(plain), machine)
            else:
                self.assertGreater(len(text), len(tried[-1]))

    def test_it_stays_in_a_class_first_where_it_must(self):
        # From state 0 the letter 1 stays, 2 leads on; only behind a 1 a 2 leads where there is more to come.
        machine = (((0, 1, 0), (2, 1, 3), (2, 2, 2), (3, 3, 4), (4, 4, 4)), (2, 4))
        own = plain_least(machine)
        onward = classes_by_doing(plain_doings(own), False)
        most = most_falls(machine)
        firsts = [text for text in texts_to(3, 5) if len(plain_falls(own, onward, text, False)) == most]
        self.assertEqual(longest_falling(machine), firsts[0])


class Steady(unittest.TestCase):
    def test_by_all_classes(self):
        for machine, own, told, onward, backward in SORTED:
            plain = all(
                plain_keeping(own, classes, one, back) == plain_keeping(own, classes, other, back)
                for classes, back in ((onward, False), (backward, True)) for one in told for other in classes[one])
            self.assertIs(are_steady(machine), plain, machine)

    def test_what_the_kinds_say(self):
        for machine, own, told, onward, backward in SORTED:
            if plain_span(own, 60) is None:
                continue
            kinds = plain_kinds(own, told)
            if "asks" in kinds:
                self.assertIs(are_steady(machine), True)
                for doing in told:
                    self.assertEqual(both_ways(machine, doing), (doing,))
            self.assertIs("onward" in kinds, all(onward_class(machine, doing) == (doing,) for doing in told))
            self.assertIs("backward" in kinds, all(backward_class(machine, doing) == (doing,) for doing in told))


class Edges(unittest.TestCase):
    def test_one_state(self):
        for machine in EDGES[:8]:
            wide = len(machine[0][0])
            all_letters = tuple(range(1, wide + 1))
            for function in (onward_class, backward_class, both_ways):
                self.assertEqual(function(machine, (0,)), ((0,),))
            self.assertEqual((keeping(machine, (0,)), keeping_back(machine, (0,))), (all_letters, all_letters))
            self.assertEqual((falls(machine, (1, 1, wide)), falls_back(machine, (1, 1, wide))), ((), ()))
            self.assertEqual([function(machine) for function in OF_MACHINES], [0, 0, (), True])

    def test_one_letter(self):
        machine = (((1,), (2,), (3,), (4,), (2,)), (0, 4))
        self.assertEqual((falls(machine, (1,) * 6), falls_back(machine, (1,) * 6)), ((1, 2), (5, 6)))
        self.assertEqual((most_falls(machine), most_falls_back(machine), longest_falling(machine)), (2, 2, (1, 1)))
        self.assertEqual((most_falls(ring(9)), longest_falling(ring(9)), are_steady(ring(9))), (0, (), True))
        self.assertEqual(len(onward_class(ring(200), tuple(range(200)))), 200)


class Wrong(unittest.TestCase):
    def test_unfit_for_what_is_no_own_doing(self):
        for function in OF_DOINGS:
            function(TWICE, (0, 2, 2))
            for thing in ODD_THINGS + ((0, True, 2), (False, 0, 2), (1, 0, 2), (0, 0), (0, 0, 2, 2), (0, 0, 3), 0.5, {}):
                with self.assertRaises(Unfit) as caught:
                    function(TWICE, thing)
                self.assertEqual(vars(caught.exception), {})

    def test_too_much_first_of_all(self):
        for machine in (WITH_201, WITH_203, ring(201)):
            for function in OF_DOINGS:
                for thing in (None, (0, 1), tuple(range(len(machine[0])))):
                    self.assertRaises(TooMuch, function, machine, thing)
            for function in (falls, falls_back):
                self.assertRaises(TooMuch, function, machine, ())
                self.assertRaises(TooMuch, function, machine, (1, 1))
            for function in OF_MACHINES:
                with self.assertRaises(TooMuch) as caught:
                    function(machine)
                self.assertEqual(vars(caught.exception), {})

    def test_just_200(self):
        own = plain_least(WITH_200)
        told = plain_doings(own)
        onward, backward = classes_by_doing(told, False), classes_by_doing(told, True)
        for doing in sorted(told)[::17]:
            self.assertEqual(onward_class(WITH_200, doing), onward[doing])
            self.assertEqual(backward_class(WITH_200, doing), backward[doing])
            self.assertEqual(keeping(WITH_200, doing), plain_keeping(own, onward, doing, False))
            self.assertEqual(keeping_back(WITH_200, doing), plain_keeping(own, backward, doing, True))
        self.assertEqual(most_falls(WITH_200), plain_most_falls(own, told, onward, False))
        self.assertEqual(most_falls_back(WITH_200), plain_most_falls(own, told, backward, True))
        self.assertEqual(len(falls(WITH_200, longest_falling(WITH_200))), most_falls(WITH_200))


if __name__ == "__main__":
    unittest.main()
