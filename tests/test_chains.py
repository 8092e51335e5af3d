"""nextsuch/chains.py: section 11 of the document, and what section 3 says of chains."""

import unittest
from itertools import product
from math import comb

from nextsuch.chains import (
    chain_mirrored, fits, is_chain, is_single, meeting, narrowed, two_ways, ways)
from nextsuch.errors import CanNot, TooMuch
from tests.plain import ODD_THINGS, Dice, all_letters, resized, swapped, texts_to, turned_round
from tests.plain_trees import FIRST_2, LOOSE, is_plain_chain, plain_ways, thrown_chain, thrown_chains

CHAINS = thrown_chains(51, 180)
EMPTY = (((),), ())
EDGES = [(1, EMPTY), (2, (((1, 2),), ())), (1, (((), ()), (1,))), (3, (((), (), ()), (3, 1))), (2, (((2,),), ())),
         (1, (((1,),) * 4, (1,) * 3)), (2, (((1, 2), (1, 2)), (2,))), (3, FIRST_2), (2, LOOSE)]
ALL = EDGES + CHAINS
TEXTS = {wide: texts_to(wide, {1: 7, 2: 6, 3: 5}[wide]) for wide in (1, 2, 3)}
# All chains of two letters with at most one mark.
SMALL = [(tuple(sets), tuple(marks)) for many in (0, 1) for marks in product((1, 2), repeat=many)
         for sets in product(((), (1,), (2,), (1, 2)), repeat=many + 1)]


class Examples(unittest.TestCase):
    def test_first_and_loose(self):
        self.assertEqual(
            (ways(FIRST_2, (1, 2, 2)), fits(FIRST_2, (1, 3)), is_single(FIRST_2), ways((((1,), (1,)), (1,)), (1, 1))),
            ([(2,)], False, True, [(1,), (2,)]))
        self.assertEqual(
            (is_single(LOOSE), two_ways(LOOSE), ways(LOOSE, (2, 1, 2, 1)), meeting(FIRST_2, LOOSE), chain_mirrored(LOOSE)),
            (False, (2, 1, 1), [(1, 2), (3, 4)], (2, 1), (((1, 2), (1,), (1, 2)), (1, 2))))
        self.assertEqual(
            (narrowed(FIRST_2, (2, 3)), is_chain(2, FIRST_2), is_chain(3, FIRST_2), is_chain(3, (((),), ()))),
            ((((3,), (2, 3)), (2,)), False, True, True))

    def test_errors(self):
        with self.assertRaises(CanNot) as caught:
            two_ways(FIRST_2)
        self.assertEqual(vars(caught.exception), {})
        with self.assertRaises(CanNot) as caught:
            meeting((((1,),), ()), FIRST_2)
        self.assertEqual(vars(caught.exception), {})


class Ways(unittest.TestCase):
    def test_all_texts_to_a_length(self):
        for wide, chain in ALL:
            for text in TEXTS[wide]:
                plain = plain_ways(chain, text)
                self.assertEqual(repr(ways(chain, text)), repr(plain), (chain, text))
                self.assertIs(fits(chain, text), plain != [])

    def test_letters_that_the_chain_has_not(self):
        for text in texts_to(3, 4):
            for chain in ((((1,), (1, 2)), (2,)), EMPTY, (((1,),), ())):
                self.assertEqual(ways(chain, text), plain_ways(chain, text))

    def test_without_marks(self):
        for letters in ((), (1,), (2,), (1, 2)):
            for text in TEXTS[2]:
                kept = {*text} <= {*letters}
                self.assertEqual((ways(((letters,), ()), text), fits(((letters,), ()), text)), ([()] if kept else [], kept))

    def test_the_text_of_its_marks_fits(self):
        for wide, chain in ALL:
            self.assertIn(tuple(range(1, len(chain[1]) + 1)), ways(chain, chain[1]))
            self.assertIs(fits(chain, chain[1]), True)

    def test_2000_and_more(self):
        chain = (((1,), (1,)), (1,))
        self.assertEqual(ways(chain, (1,) * 2000), [(own,) for own in range(1, 2001)])
        with self.assertRaises(TooMuch) as caught:
            ways(chain, (1,) * 2001)
        self.assertEqual(vars(caught.exception), {})
        self.assertIs(fits(chain, (1,) * 2001), True)
        for marks in range(9):
            chain = ((1,),) * (marks + 1), (1,) * marks
            for many in (marks, 11, 12, 13, 14, 60):
                text = (1,) * max(many, marks)
                if comb(len(text), marks) > 2000:
                    self.assertRaises(TooMuch, ways, chain, text)
                else:
                    self.assertEqual(ways(chain, text), plain_ways(chain, text))
                self.assertIs(fits(chain, text), True)

    def test_many_that_do_not_fit_in_the_end(self):
        # Very many beginnings of ways, none of which comes to an end, or few do.
        chain = ((1,),) * 8 + ((),), (1,) * 7 + (2,)
        self.assertEqual((ways(chain, (1,) * 60), fits(chain, (1,) * 60)), ([], False))
        few = ((1,),) + ((1, 2),) * 3 + ((),), (1, 2, 1, 2)
        text = (1,) * 28 + (2, 1) + (1,) * 28 + (2,)
        self.assertEqual(ways(few, text), plain_ways(few, text))
        self.assertEqual(ways((((1,),) * 8 + ((2,),), (1,) * 7 + (2,)), (1,) * 7 + (2,) * 50), [tuple(range(1, 9))])

    def test_long_texts(self):
        for text in ((2,) + (1,) * 59, (1,) * 30 + (2,) + (1, 2) * 14, (1,) * 60):
            self.assertEqual(ways(FIRST_2, text), plain_ways(FIRST_2, text))
            self.assertEqual(ways(LOOSE, text), plain_ways(LOOSE, text))


class Single(unittest.TestCase):
    def plain_two_ways(self, chain, texts):
        return next((text for text in texts if len(plain_ways(chain, text)) > 1), None)

    def check(self, chain, wide):
        # If a TEXT fits in two ways, one does of at most twice as many letters as there are pairs of marks.
        plain = self.plain_two_ways(chain, TEXTS[wide])
        if is_single(chain):
            self.assertIsNone(plain, chain)
            self.assertRaises(CanNot, two_ways, chain)
        else:
            told = two_ways(chain)
            self.assertGreater(len(plain_ways(chain, told)), 1, chain)
            if plain is None:
                self.assertGreater(len(told), len(TEXTS[wide][-1]))
            else:
                self.assertEqual(repr(told), repr(plain), chain)

    def test_all_of_two_letters_and_a_mark(self):
        for chain in SMALL:
            self.check(chain, 2)

    def test_thrown_ones(self):
        told = [0, 0]
        for wide, chain in ALL:
            self.check(chain, wide)
            told[is_single(chain)] += 1
        self.assertGreater(min(told), 20)

    def test_all_of_one_letter_and_three_marks(self):
        for many in range(4):
            for sets in product(((), (1,)), repeat=many + 1):
                self.check((tuple(sets), (1,) * many), 1)
                self.assertIs(is_single((tuple(sets), (1,) * many)), sum(len(own) for own in sets) < 2)

    def test_long_ones(self):
        # The letter behind the last mark is in the set ahead of the first one: all marks can be one further.
        chain = ((1,),) + ((),) * 7 + ((1,),), (1,) * 8
        self.assertEqual(two_ways(chain), (1,) * 9)
        chain = ((1, 2),) + ((),) * 7 + ((1, 2),), (1, 2) * 4
        self.assertEqual(two_ways(chain), (1, 2) * 5)
        chain = ((),) * 9, (1, 2, 3, 1, 2, 3, 1, 2)
        self.assertIs(is_single(chain), True)
        chain = ((2,), (3,)) * 4 + ((2, 3),), (1,) * 8
        self.assertIs(is_single(chain), True)
        chain = ((1, 2, 3),) + ((1, 2, 3),) * 7 + ((1, 2, 3),), (3,) * 8
        self.assertEqual(two_ways(chain), (3,) * 9)

    def test_of_many_marks(self):
        chain = (((2,),) * 41, (1,) * 40)
        self.assertIs(is_single(chain), True)
        self.assertEqual(two_ways((((2,),) * 40 + ((1, 2),), (1,) * 39 + (2,))), (1,) * 39 + (2, 2))


class Meeting(unittest.TestCase):
    def check(self, one, other, wide):
        plain = next((text for text in TEXTS[wide] if plain_ways(one, text) and plain_ways(other, text)), None)
        if plain is not None:
            self.assertEqual(repr(meeting(one, other)), repr(plain), (one, other))
            return True
        try:
            told = meeting(one, other)
        except CanNot as error:
            self.assertEqual(vars(error), {})
            return False
        self.assertTrue(plain_ways(one, told) and plain_ways(other, told))
        self.assertGreater(len(told), len(TEXTS[wide][-1]))
        return True

    def test_pairs_of_two_letters(self):
        for one, other in product(SMALL[:30:2] + SMALL[1::5], SMALL[::4]):
            self.check(one, other, 2)

    def test_thrown_pairs(self):
        told = []
        for at, (wide, one) in enumerate(ALL):
            for other_wide, other in ALL[at % 5::19]:
                if wide == other_wide and wide < 3:
                    told.append(self.check(one, other, wide))
        self.assertGreater(told.count(True), 40)
        self.assertGreater(told.count(False), 40)

    def test_three_letters(self):
        dice = Dice(52)
        for _ in range(40):
            self.check(thrown_chain(dice, 3, dice.below(3)), thrown_chain(dice, 3, dice.below(3)), 3)

    def test_long_ones(self):
        one = ((),) * 6, (1, 1, 2, 1, 2)
        self.assertEqual(meeting(one, (((1, 2),), ())), (1, 1, 2, 1, 2))
        self.assertRaises(CanNot, meeting, one, (((1,),), ()))
        self.assertEqual(meeting((((2,),) * 9, (1,) * 8), (((1, 2),) * 9, (2, 1) * 4)), (1, 1, 1, 1, 2, 1, 2, 1, 2, 1, 2, 1))
        by_two = ((2,), ()) * 4 + ((2,),), (1,) * 8
        self.assertRaises(CanNot, meeting, by_two, (((1, 2), (), ()), (2, 1)))
        self.assertEqual(meeting(by_two, (((1, 2), (), (), ()), (2, 1, 1))), (1,) * 6 + (2, 1, 1))

    def test_with_itself(self):
        for wide, chain in ALL:
            self.assertEqual(meeting(chain, chain), tuple(chain[1]))


class NarrowedAndMirrored(unittest.TestCase):
    def test_narrowed(self):
        for wide, chain in ALL:
            for letters in all_letters(wide):
                if {*chain[1]} <= {*letters}:
                    told = narrowed(chain, letters)
                    plain = tuple(tuple(own for own in inner if own in letters) for inner in chain[0]), chain[1]
                    self.assertEqual(repr(told), repr(plain))
                    for text in TEXTS[wide][:60]:
                        if {*text} <= {*letters}:
                            self.assertEqual(plain_ways(told, text), plain_ways(chain, text))
                        else:
                            self.assertEqual(plain_ways(told, text), [])
                else:
                    with self.assertRaises(CanNot) as caught:
                        narrowed(chain, letters)
                    self.assertEqual(vars(caught.exception), {})

    def test_letters_that_no_set_has(self):
        self.assertEqual(narrowed(EMPTY, (1, 2)), EMPTY)
        self.assertEqual(narrowed((((1, 3),), ()), (2,)), EMPTY)
        self.assertRaises(CanNot, narrowed, (((), ()), (1,)), (2, 3))

    def test_mirrored(self):
        for wide, chain in ALL:
            told = chain_mirrored(chain)
            self.assertEqual(repr(told), repr((chain[0][::-1], chain[1][::-1])))
            self.assertEqual(chain_mirrored(told), chain)
            self.assertIs(is_single(told), is_single(chain))
            for text in TEXTS[wide][:60]:
                back = [tuple(len(text) + 1 - place for place in reversed(own)) for own in plain_ways(chain, text)]
                self.assertEqual(ways(told, turned_round(text)), sorted(back))

    def test_lists(self):
        self.assertEqual(repr(narrowed([[[1, 3], [1, 2, 3]], [2]], [2, 3])), "(((3,), (2, 3)), (2,))")
        self.assertEqual(repr(chain_mirrored([[[1], []], [2]])), "(((), (1,)), (2,))")
        self.assertEqual(repr(ways([[[1], [2]], [2]], [1, 2, 2])), "[(2,)]")


class Things(unittest.TestCase):
    def check(self, thing):
        for wide in (1, 2, 3):
            self.assertIs(is_chain(wide, thing), is_plain_chain(wide, thing), (wide, thing))

    def test_good_ones(self):
        for wide, chain in ALL:
            self.check(chain)
            self.assertIs(is_chain(wide, chain), True)
            self.check(list(chain))
            self.check((list(chain[0]), chain[1]))
            self.check((chain[0], list(chain[1])))
            self.check((tuple(list(own) for own in chain[0]), chain[1]))

    def test_of_every_kind(self):
        for thing in ODD_THINGS:
            for own in (thing, (thing,), (thing, ()), ((), thing), (((),), thing), ((thing,), ()), ((thing, thing), (1,)),
                        (((), ()), thing), ((thing, (1,)), (1,)), (((), ()), (thing,))):
                self.check(own)

    def test_one_part_changed(self):
        for good in (FIRST_2, LOOSE, EMPTY, (((1,), (), (2,)), (2, 2))):
            for thing in [*swapped(good, ODD_THINGS[:48] + (3, (1, 2, 3), (2, 3), ((),) * 3)), *resized(good)]:
                self.check(thing)

    def test_each_condition_alone(self):
        self.assertIs(is_chain(2, (((1,), (1, 2)), (2,))), True)
        for bad in ((), ((), ()), (((1,), (1, 2)),), (((1,), (1, 2)), (2,), ()), (((1,), (1, 2)), ()),
                    (((1,), (1, 2)), (2, 2)), (((1,), (2, 1)), (2,)), (((1,), (1, 1)), (2,)), (((1,), (1, 3)), (2,)),
                    (((0,), (1, 2)), (2,)), (((1,), (1, 2)), (3,)), (((1,), (1, 2)), (0,)), (((1,), (1, 2)), (True,)),
                    (((True,), (1, 2)), (2,)), ([(1,), (1, 2)], (2,)), (((1,), [1, 2]), (2,)), (((1,), (1, 2)), [2]),
                    [((1,), (1, 2)), (2,)], ((1, (1, 2)), (2,)), (((1,), None), (2,)), (((1,), (1, 2)), 2)):
            self.assertFalse(is_plain_chain(2, bad))
            self.assertIs(is_chain(2, bad), False, bad)

    def test_great_ones(self):
        chain = ((1, 2), ()) * 3000 + ((2,),), (1, 2, 1) * 2000
        self.assertIs(is_chain(2, chain), True)
        self.assertIs(is_chain(1, chain), False)
        self.assertIs(is_chain(2, (chain[0][1:], chain[1])), False)


if __name__ == "__main__":
    unittest.main()
