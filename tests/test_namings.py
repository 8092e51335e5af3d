"""nextsuch/namings.py: section 17 of the document."""

import unittest
from itertools import product

from nextsuch.errors import CanNot
from nextsuch.namings import are_one, letters_there, order_of, text_with, unlike_named
from tests.plain import Dice, all_letters, texts_to
from tests.plain_looks import long_texts
from tests.plain_trees import plain_found

AHEAD_OF_2, FIRST_1, LAST_1 = (("next", (2,)), ("last", (1,))), (("next", (1,)),), (("last", (1,)),)
FIRST = (("next", (1, 2)),)
WORDS = ("ahead", "same", "behind")
LONGEST = {1: 8, 2: 6, 3: 4}
TEXTS = {wide: texts_to(wide, LONGEST[wide]) for wide in (1, 2, 3)}


def plain_named(text, naming):
    place = 0 if naming[0][0] == "next" else len(text) + 1
    for side, letters in naming:
        place = plain_found(text, place, side, letters)
    return place


def plain_order(text, one, other):
    here, there = plain_named(text, one), plain_named(text, other)
    return "ahead" if here < there else "same" if here == there else "behind"


def plain_stands(text, naming):
    place = plain_named(text, naming)
    return "front" if place == 0 else "back" if place == len(text) + 1 else text[place - 1]


def all_whats(wide):
    return (*range(1, wide + 1), "back", "front")


def thrown_naming(dice, wide, many):
    return tuple((("next", "last")[dice.below(2)], all_letters(wide)[dice.below(2 ** wide - 1)]) for _ in range(many))


def thrown_pairs(seed, many):
    """Triples of wide and two namings that have together at most as many pairs as the texts tried have letters."""
    dice = Dice(seed)
    for _ in range(many):
        wide = 1 + dice.below(3)
        first = 1 + dice.below(LONGEST[wide] - 1)
        one = thrown_naming(dice, wide, first)
        if dice.below(4) == 0:
            yield wide, one, one[:1 + dice.below(first)]
        else:
            yield wide, one, thrown_naming(dice, wide, 1 + dice.below(LONGEST[wide] - first))


class Examples(unittest.TestCase):
    def test_orders(self):
        self.assertEqual(
            (order_of(2, AHEAD_OF_2, LAST_1), order_of(2, FIRST, FIRST_1),
             are_one(2, AHEAD_OF_2, AHEAD_OF_2 + AHEAD_OF_2), are_one(2, FIRST, FIRST_1)),
            (None, None, True, False))
        self.assertEqual(
            (order_of(2, FIRST_1, (("next", (1,)), ("next", (2,)), ("next", (1, 2)))),
             order_of(2, (("next", (2,)), ("last", (1, 2)), ("last", (1, 2))), (("last", (1, 2)), ("next", (1, 2))))),
            (None, "ahead"))

    def test_texts(self):
        self.assertEqual(
            (unlike_named(2, AHEAD_OF_2, LAST_1), unlike_named(2, FIRST, FIRST_1), unlike_named(2, FIRST_1, LAST_1)),
            ((2, 1), (2,), ()))

    def test_letters(self):
        self.assertEqual(
            (letters_there(2, AHEAD_OF_2), letters_there(2, FIRST_1 + (("next", (1, 2)),)),
             text_with(2, (("next", (2,)), ("next", (1, 2))), 2), text_with(2, AHEAD_OF_2, "front")),
            ((1, "front"), (1, 2, "back"), (2, 2), ()))

    def test_errors(self):
        for function, given in ((unlike_named, (2, AHEAD_OF_2, AHEAD_OF_2 + AHEAD_OF_2)),
                                (text_with, (2, FIRST_1, "front"))):
            with self.assertRaises(CanNot) as caught:
                function(*given)
            self.assertEqual(vars(caught.exception), {})


class Two(unittest.TestCase):
    def check(self, wide, one, other, texts):
        """All told of both, against all of texts: at least those of as many letters as both have pairs."""
        firsts = {}
        for text in texts:
            firsts.setdefault(plain_order(text, one, other), text)
        self.assertEqual(order_of(wide, one, other), [*firsts][0] if len(firsts) == 1 else None, (wide, one, other))
        self.assertIs(are_one(wide, one, other), {*firsts} == {"same"}, (wide, one, other))
        if {*firsts} == {"same"}:
            self.assertRaises(CanNot, unlike_named, wide, one, other)
        else:
            plain = next(text for text in texts if plain_order(text, one, other) != "same")
            self.assertEqual(repr(unlike_named(wide, one, other)), repr(plain), (wide, one, other))
        return [*firsts][0] if len(firsts) == 1 else None

    def test_all_texts_to_as_many_letters(self):
        told = [self.check(wide, one, other, TEXTS[wide]) for wide, one, other in thrown_pairs(171, 900)]
        for word in WORDS + (None,):
            self.assertGreater(told.count(word), 20, word)

    def test_all_short_ones(self):
        pairs = list(product(("next", "last"), all_letters(2)))
        namings = [(own,) for own in pairs] + list(product(pairs, repeat=2))
        for one in namings[::2]:
            for other in namings:
                self.check(2, one, other, TEXTS[2][:31])

    def test_longer_texts_tell_no_more(self):
        for wide, one, other in thrown_pairs(172, 200):
            told = order_of(wide, one, other)
            seen = {plain_order(text, one, other) for text in long_texts(173, wide, 60, 25)}
            if told is not None:
                self.assertEqual(seen, {told})

    def test_six_pairs_each(self):
        dice, long = Dice(174), long_texts(175, 3, 250, 30)
        told = []
        for at in range(120):
            one, other = thrown_naming(dice, 3, 6), thrown_naming(dice, 3, 6)
            if at % 3 == 0:
                other = one[:1 + dice.below(5)] + other[:1]
            word = order_of(3, one, other)
            seen = {plain_order(text, one, other) for text in long + TEXTS[3]}
            told.append(word)
            if word is not None:
                self.assertEqual(seen, {word}, (one, other))
            self.assertIs(are_one(3, one, other), word == "same")
            if word == "same":
                self.assertRaises(CanNot, unlike_named, 3, one, other)
            else:
                text = unlike_named(3, one, other)
                self.assertNotEqual(plain_order(text, one, other), "same")
                self.assertLessEqual(len(text), 12)
                shorter = [own for own in TEXTS[3] if (len(own), own) < (len(text), text)]
                self.assertTrue(all(plain_order(own, one, other) == "same" for own in shorter))
        self.assertGreater(len({*told}), 1)

    def test_a_long_text_is_needed(self):
        # The fifth and the sixth letter of a row of 1, 2, 1, 2, ..
        row = tuple(("next", (1 + at % 2,)) for at in range(6))
        self.assertEqual(unlike_named(2, row, row[:5]), (1, 2, 1, 2, 1))
        self.assertEqual(unlike_named(3, row, row[:5] + (("next", (3,)),)), (1, 2, 1, 2, 1, 2))
        back = tuple(("last", (1 + at % 2,)) for at in range(6))
        self.assertEqual(unlike_named(2, back, back[:5]), (1, 2, 1, 2, 1))
        self.assertIs(are_one(2, row, back), False)
        self.assertEqual(unlike_named(2, row, back), ())

    def test_one_with_itself(self):
        dice = Dice(176)
        for wide in (1, 2, 3):
            for many in (1, 2, 6):
                own = thrown_naming(dice, wide, many)
                self.assertIs(are_one(wide, own, own), True)
                self.assertEqual(order_of(wide, own, own), "same")

    def test_both_ways_round(self):
        other_word = {"ahead": "behind", "behind": "ahead", "same": "same", None: None}
        for wide, one, other in thrown_pairs(177, 200):
            self.assertEqual(order_of(wide, other, one), other_word[order_of(wide, one, other)])
            self.assertIs(are_one(wide, other, one), are_one(wide, one, other))

    def test_letters_that_none_asks_for_tell_nothing(self):
        for wide, one, other in thrown_pairs(181, 150):
            for wider in range(wide, 4):
                self.assertEqual(order_of(wider, one, other), order_of(wide, one, other))
                self.assertIs(are_one(wider, one, other), are_one(wide, one, other))


class One(unittest.TestCase):
    def check(self, wide, naming, texts):
        firsts = {}
        for text in texts:
            firsts.setdefault(plain_stands(text, naming), text)
        told = letters_there(wide, naming)
        self.assertEqual(repr(told), repr(tuple(what for what in all_whats(wide) if what in firsts)), (wide, naming))
        for what in all_whats(wide):
            if what in firsts:
                self.assertEqual(repr(text_with(wide, naming, what)), repr(firsts[what]), (wide, naming, what))
            else:
                with self.assertRaises(CanNot) as caught:
                    text_with(wide, naming, what)
                self.assertEqual(vars(caught.exception), {})

    def test_all_texts_to_as_many_letters(self):
        dice = Dice(178)
        for _ in range(500):
            wide = 1 + dice.below(3)
            self.check(wide, thrown_naming(dice, wide, 1 + dice.below(LONGEST[wide])), TEXTS[wide])

    def test_six_pairs(self):
        dice, long = Dice(179), long_texts(180, 3, 300, 30)
        for _ in range(100):
            naming = thrown_naming(dice, 3, 6)
            told = letters_there(3, naming)
            self.assertLessEqual({plain_stands(text, naming) for text in long + TEXTS[3]}, {*told})
            for what in told:
                text = text_with(3, naming, what)
                self.assertEqual(plain_stands(text, naming), what)
                self.assertLessEqual(len(text), 6)
                shorter = [own for own in TEXTS[3] if (len(own), own) < (len(text), text)]
                self.assertTrue(all(plain_stands(own, naming) != what for own in shorter))

    def test_one_pair(self):
        for wide in (1, 2, 3):
            for letters in all_letters(wide):
                self.assertEqual(letters_there(wide, (("next", letters),)), letters + ("back",))
                self.assertEqual(letters_there(wide, (("last", letters),)), letters + ("front",))
                for side, end in (("next", "back"), ("last", "front")):
                    self.assertEqual(text_with(wide, ((side, letters),), end), ())
                    for what in letters:
                        self.assertEqual(text_with(wide, ((side, letters),), what), (what,))

    def test_both_ends(self):
        naming = (("next", (1,)), ("next", (1,)), ("last", (2,)))
        self.check(2, naming, TEXTS[2])
        self.assertEqual(letters_there(2, naming), (2, "front"))
        self.assertEqual(letters_there(2, naming + (("next", (1,)), ("next", (1,)))), (1, "back"))

    def test_lists(self):
        self.assertEqual(letters_there(2, [["next", [2]], ["last", [1]]]), (1, "front"))
        self.assertEqual(unlike_named(2, [["next", [1, 2]]], (("next", (1,)),)), (2,))


if __name__ == "__main__":
    unittest.main()
