"""nextsuch/doings.py: section 6 of the document."""

import unittest
from itertools import permutations, product

from nextsuch.doings import (
    doing_of, doings, doings_long, idempotents, is_within, power_of, span, then, word_for)
from nextsuch.errors import CanNot, TooMuch, Unfit
from nextsuch.machines import mirrored
from tests.plain import KNOWN, ODD_THINGS, Dice, plain_least, swapped, texts_to, thrown_machines
from tests.plain_doings import (
    EDGES, FAT, LAST, ODD, SMALL, TEXTS, TWICE, WITH_199, WITH_200, WITH_201, WITH_203, all_within, plain_doing,
    plain_doings, plain_long, plain_power, plain_span, plain_then, ring)


class Examples(unittest.TestCase):
    def test_doing_of_and_then(self):
        self.assertEqual(
            (doing_of(TWICE, (1,)), doing_of(TWICE, (2, 1)), then((1, 2, 2), (1, 2, 2)), doing_of(FAT, (1, 2))),
            ((1, 2, 2), (1, 1, 2), (2, 2, 2), (0, 2, 2)))

    def test_doings(self):
        self.assertEqual(doings(TWICE), ((0, 0, 2), (0, 1, 2), (0, 2, 2), (1, 1, 2), (1, 2, 2), (2, 2, 2)))
        self.assertEqual(
            (idempotents(TWICE) == doings(TWICE)[:4] + doings(TWICE)[5:], word_for(TWICE, (0, 2, 2)),
             word_for(TWICE, (0, 1, 2)), word_for(ODD, (1, 0))),
            (True, (1, 2), (), (1,)))

    def test_powers(self):
        self.assertEqual(
            (power_of((1, 2, 2)), power_of((1, 0)), power_of((1, 2, 0)), power_of((0, 0, 2))),
            ((2, (2, 2, 2)), (2, (0, 1)), (3, (0, 1, 2)), (1, (0, 0, 2))))

    def test_within(self):
        self.assertEqual(
            (is_within(TWICE, (2, 2, 2), (0, 0, 2)), is_within(TWICE, (0, 0, 2), (2, 2, 2))), (True, False))

    def test_long(self):
        self.assertEqual(
            (doings_long(TWICE, 0), doings_long(TWICE, 1), [len(doings_long(TWICE, own)) for own in (2, 3, 4)],
             span(TWICE), span(ODD), span(LAST)),
            (((0, 1, 2),), ((0, 0, 2), (1, 2, 2)), [4, 5, 5], 3, 1, 1))

    def test_errors(self):
        with self.assertRaises(CanNot) as caught:
            word_for(TWICE, (1, 0, 2))
        self.assertEqual(vars(caught.exception), {})
        with self.assertRaises(Unfit) as caught:
            is_within(TWICE, (0, 1, 2), (1, 0, 2))
        self.assertEqual(vars(caught.exception), {})


class DoingOf(unittest.TestCase):
    def test_all_short_texts(self):
        for machine, own, _ in SMALL:
            for text in TEXTS[len(own[0][0])]:
                self.assertEqual(repr(doing_of(machine, text)), repr(plain_doing(own, text)))

    def test_it_is_of_the_least_machine(self):
        self.assertEqual(doing_of((((1, 2), (2, 0), (0, 1)), (0, 1, 2)), (1, 2)), (0,))
        for machine in thrown_machines(31, 60):
            own = plain_least(machine)
            for text in ((), (1,), (1, len(own[0][0]), 1, 1)):
                self.assertEqual(doing_of(machine, text), plain_doing(own, text))

    def test_it_is_told_of_machines_with_more_than_200(self):
        for machine in (WITH_201, WITH_203):
            own = plain_least(machine)
            for text in texts_to(3, 3):
                self.assertEqual(doing_of(machine, text), plain_doing(own, text))
        self.assertEqual(doing_of(ring(300), (1,) * 7)[:2], (7, 8))

    def test_two_texts_have_one_doing_exactly_if_nothing_parts_them(self):
        for machine, own, told in SMALL[::6]:
            sides = list(told.values())
            texts = texts_to(len(own[0][0]), 2)
            for one, other in product(texts, texts):
                parted = any(
                    (plain_doing(own, p + one + q)[0] in own[1]) != (plain_doing(own, p + other + q)[0] in own[1])
                    for p in sides for q in texts + sides[:8])
                if parted:
                    self.assertNotEqual(doing_of(machine, one), doing_of(machine, other))
                elif len(sides) <= 8:
                    self.assertEqual(doing_of(machine, one), doing_of(machine, other))


class Then(unittest.TestCase):
    def test_all_of_three_states(self):
        for one, other in product(product(range(3), repeat=3), repeat=2):
            self.assertEqual(repr(then(one, other)), repr(tuple(other[one[own]] for own in range(3))))

    def test_a_text_behind_another(self):
        for machine, own, _ in SMALL[::4]:
            texts = texts_to(len(own[0][0]), 2)
            for one, other in product(texts, texts):
                self.assertEqual(then(doing_of(machine, one), doing_of(machine, other)), doing_of(machine, one + other))

    def test_one_state(self):
        self.assertEqual(then((0,), (0,)), (0,))


class Doings(unittest.TestCase):
    def test_all_and_the_least_texts(self):
        for machine, own, told in SMALL:
            self.assertEqual(repr(doings(machine)), repr(tuple(sorted(told))), machine)
            for doing, text in told.items():
                self.assertEqual(repr(word_for(machine, doing)), repr(text))
                self.assertLess(len(text), len(told))

    def test_the_doings_of_all_texts_in_order(self):
        for machine, own, told in SMALL:
            firsts = {}
            for text in TEXTS[len(own[0][0])]:
                firsts.setdefault(plain_doing(own, text), text)
            for doing, text in firsts.items():
                self.assertEqual(repr(word_for(machine, doing)), repr(text))
                self.assertIn(doing, doings(machine))

    def test_idempotents(self):
        for machine, own, told in SMALL:
            kept = tuple(sorted(doing for doing in told if plain_then(doing, doing) == doing))
            self.assertEqual(repr(idempotents(machine)), repr(kept))

    def test_one_state(self):
        for machine in EDGES[:7]:
            self.assertEqual((doings(machine), idempotents(machine), word_for(machine, (0,)), span(machine)),
                             (((0,),), ((0,),), (), 1))

    def test_known_ones(self):
        self.assertEqual(len(doings(ring(200))), 200)
        self.assertEqual(idempotents(ring(12)), (tuple(range(12)),))
        self.assertEqual(word_for(ring(12), tuple((own + 5) % 12 for own in range(12))), (1,) * 5)


class WordFor(unittest.TestCase):
    def test_what_is_none_of_its_own(self):
        for machine, own, told in SMALL[::8]:
            doing = doings(machine)[0]
            true = tuple(bool(state) if state < 2 else state for state in doing)
            self.assertNotEqual(repr(true), repr(doing))
            for thing in (doing + (0,), doing[:-1], (), None, True, 0, "0", "", true, (doing,), [doing], (None,), ("0",),
                          (True,), (False,), (-1,), (0, "1"), ((0,), (1,)), [[0]], {0: 0}, 0.5, (0.0,), doing + (None,)):
                self.assertRaises(CanNot, word_for, machine, thing)

    def test_things_of_every_kind(self):
        for machine in (TWICE, ODD, EDGES[0]):
            own = plain_doings(plain_least(machine))
            for thing in ODD_THINGS:
                if (type(thing) in (tuple, list) and all(type(inner) is int for inner in thing) and tuple(thing) in own):
                    self.assertEqual(word_for(machine, thing), own[tuple(thing)])
                else:
                    self.assertRaises(CanNot, word_for, machine, thing)

    def test_one_state_changed(self):
        own = plain_doings(TWICE)
        for doing in own:
            for thing in swapped(doing, (True, False, 0, 1, 2, 3, -1, None, "1", (), (1,), [2])):
                if type(thing) is tuple and all(type(state) is int for state in thing) and thing in own:
                    self.assertEqual(word_for(TWICE, thing), own[thing])
                else:
                    self.assertRaises(CanNot, word_for, TWICE, thing)

    def test_a_list_is_taken_for_a_tuple(self):
        self.assertEqual(word_for(TWICE, [0, 2, 2]), (1, 2))
        self.assertIs(is_within(TWICE, [2, 2, 2], [0, 0, 2]), True)


class PowerOf(unittest.TestCase):
    def test_all_of_few_states(self):
        for states in (1, 2, 3, 4):
            for doing in product(range(states), repeat=states):
                self.assertEqual(repr(power_of(doing)), repr(plain_power(doing)))

    def test_thrown_ones_of_eight_states(self):
        dice = Dice(32)
        for _ in range(400):
            doing = tuple(dice.below(8) for _ in range(8))
            self.assertEqual(power_of(doing), plain_power(doing), doing)

    def test_all_orders_of_five_states(self):
        for doing in permutations(range(5)):
            self.assertEqual(power_of(doing), plain_power(doing))

    def test_a_long_way_to_a_ring(self):
        self.assertEqual(power_of((1, 2, 3, 4, 5, 6, 7, 7)), (7, (7,) * 8))
        self.assertEqual(power_of((1, 2, 3, 4, 5, 6, 7, 6)), plain_power((1, 2, 3, 4, 5, 6, 7, 6)))
        self.assertEqual(power_of((1, 2, 3, 4, 5, 3, 7, 6)), plain_power((1, 2, 3, 4, 5, 3, 7, 6)))

    def test_rings_that_come_round_together_very_late(self):
        sizes, doing = (2, 3, 5, 7, 11, 13, 17, 19, 23, 29, 31), []
        for size in sizes:
            start = len(doing)
            doing += [start + (at + 1) % size for at in range(size)]
        times = 1
        for size in sizes:
            times *= size
        self.assertEqual(power_of(tuple(doing)), (times, tuple(range(len(doing)))))


class IsWithin(unittest.TestCase):
    def test_all_pairs(self):
        for machine, own, told in SMALL:
            within = all_within(told) if len(told) <= 24 else None
            for one, other in product(told, told):
                if within is not None:
                    self.assertIs(is_within(machine, one, other), (one, other) in within, (machine, one, other))

    def test_unfit_for_what_is_none_of_its_own(self):
        good, bad = (0, 0, 2), ((1, 0, 2), (0, False, 2), (0, 0), (0, 0, 2, 2), None, "002", 7, True, ((0, 0, 2),), [])
        self.assertIs(is_within(TWICE, good, good), True)
        for thing in bad:
            self.assertRaises(Unfit, is_within, TWICE, thing, good)
            self.assertRaises(Unfit, is_within, TWICE, good, thing)
            self.assertRaises(Unfit, is_within, TWICE, thing, thing)
        for thing in ODD_THINGS:
            self.assertRaises(Unfit, is_within, TWICE, thing, good)
            self.assertRaises(Unfit, is_within, TWICE, good, thing)


class Long(unittest.TestCase):
    def test_letter_by_letter(self):
        for machine, own, _ in SMALL:
            for number in range(12):
                self.assertEqual(repr(doings_long(machine, number)), repr(tuple(sorted(plain_long(own, number)))))

    def test_of_all_texts_of_so_many_letters(self):
        for machine, own, _ in SMALL[::3]:
            wide = len(own[0][0])
            for number in range(5):
                texts = product(range(1, wide + 1), repeat=number)
                self.assertEqual(set(doings_long(machine, number)), {plain_doing(own, text) for text in texts})

    def test_great_numbers(self):
        for machine in (ring(7), ring(150), EDGES[-1], TWICE, (((1,), (2,), (3,), (4,), (5,), (3,)), (1, 4))):
            own = plain_least(machine)
            for number in (59, 60, 61, 200, 997, 998, 999, 1000):
                self.assertEqual(set(doings_long(machine, number)), plain_long(own, number))
        for machine, own, _ in SMALL[::9]:
            for number in (63, 120, 1000):
                self.assertEqual(set(doings_long(machine, number)), plain_long(own, number))

    def test_a_text_of_no_letters(self):
        for machine, own, _ in SMALL:
            self.assertEqual(doings_long(machine, 0), (tuple(range(len(own[0]))),))


class Span(unittest.TestCase):
    def test_the_least_number_for_which_it_is_so(self):
        for machine, own, _ in SMALL:
            self.assertEqual(repr(span(machine)), repr(plain_span(own, 60)))

    def test_what_the_document_says_of_it(self):
        for machine, own, told in SMALL:
            if len(told) <= 12:
                long = doings_long(machine, span(machine))
                idle = [doing for doing in long if plain_then(doing, doing) == doing]
                made = {plain_then(plain_then(s, e), t) for s in long for e in idle for t in long}
                self.assertEqual(set(long), made)

    def test_60_and_61(self):
        self.assertEqual((span(ring(2)), span(ring(59)), span(ring(60))), (2, 59, 60))
        for many in (61, 62, 120, 200):
            self.assertEqual(len(doings(ring(many))), many)
            self.assertRaises(TooMuch, span, ring(many))

    def test_a_long_way_ahead_of_a_ring(self):
        for lead, many in ((0, 5), (4, 5), (5, 5), (6, 5), (11, 4), (59, 1), (60, 1), (58, 30), (60, 30)):
            steps = tuple((own + 1,) for own in range(lead + many - 1)) + ((lead,),)
            self.assertEqual(span((steps, (lead,))), plain_span(plain_least((steps, (lead,))), 60), (lead, many))
        self.assertRaises(TooMuch, span, (tuple((own + 1,) for own in range(61)) + ((61,),), (61,)))


class MuchOwn(unittest.TestCase):
    def test_just_200(self):
        self.assertEqual((len(doings(WITH_199)), len(doings(WITH_200)), len(doings(ring(200)))), (199, 200, 200))
        told = plain_doings(plain_least(WITH_200))
        self.assertEqual(doings(WITH_200), tuple(sorted(told)))
        for doing, text in told.items():
            self.assertEqual(word_for(WITH_200, doing), text)
        self.assertEqual(span(WITH_200), plain_span(plain_least(WITH_200), 60))
        self.assertEqual(len(idempotents(WITH_200)), sum(plain_then(own, own) == own for own in told))
        self.assertIs(is_within(WITH_200, (0, 1, 2, 3, 4), max(told)), False)
        self.assertRaises(CanNot, word_for, WITH_200, None)

    def test_more(self):
        for machine in (WITH_201, WITH_203, ring(201), ring(400), mirrored(WITH_203)):
            for function in (doings, idempotents, span):
                with self.assertRaises(TooMuch) as caught:
                    function(machine)
                self.assertEqual(vars(caught.exception), {})
            for number in (0, 1, 1000):
                self.assertRaises(TooMuch, doings_long, machine, number)

    def test_too_much_ahead_of_each_other_error(self):
        for machine in (WITH_201, ring(201)):
            for thing in (None, True, (), (0, 0), "x", [[]]):
                self.assertRaises(TooMuch, word_for, machine, thing)
                self.assertRaises(TooMuch, is_within, machine, thing, thing)

    def test_a_mirrored_machine_of_many_states(self):
        # mirrored(WITH_203) goes over 200 DOINGS, too; that of WITH_200 has as many as WITH_200.
        self.assertEqual(len(doings(mirrored(WITH_200))), 200)


if __name__ == "__main__":
    unittest.main()
