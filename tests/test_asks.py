"""nextsuch/asks.py: section 9 of the document, and what section 3 says of asks and namings."""

import unittest
from itertools import product

from nextsuch.asks import found, is_ask, is_naming, is_side, named, row_named, stands_at, turned
from nextsuch.errors import NoPlace
from tests.plain import ODD_THINGS, all_letters, resized, swapped, texts_to, turned_round

TEXT = (2, 1, 3, 1)
NAMING = (("next", (3,)), ("last", (1, 2)), ("last", (1,)))
PAIRS = [(side, letters) for side in ("next", "last") for letters in all_letters(2)]
NAMINGS = [tuple(own) for size in (1, 2) for own in product(PAIRS, repeat=size)] + [
    tuple(own) for own in product(PAIRS, repeat=3)][::7] + [
    NAMING, (("last", (1, 2, 3)),) * 6, (("next", (1, 3)), ("last", (2,)), ("next", (1, 2, 3))) * 2]


def plain_found(text, place, side, letters):
    """The nearest place beyond or ahead with one of letters, all places tried; the end without any."""
    kept = [own for own in range(1, len(text) + 1) if text[own - 1] in letters]
    if side == "next":
        return min([own for own in kept if own > place], default=len(text) + 1)
    return max([own for own in kept if own < place], default=0)


def plain_row(text, naming):
    row = []
    for at, (side, letters) in enumerate(naming):
        place = row[-1] if at else (0 if side == "next" else len(text) + 1)
        row.append(plain_found(text, place, side, letters))
    return tuple(row)


class Examples(unittest.TestCase):
    def test_found(self):
        self.assertEqual(
            (found(TEXT, 0, "next", (1,)), found(TEXT, 5, "last", (2, 3)), found(TEXT, 2, "last", (3,)),
             found(TEXT, 5, "next", (1,))),
            (2, 3, 0, 5))

    def test_named(self):
        self.assertEqual(
            (row_named(TEXT, NAMING), named(TEXT, NAMING), row_named((1,), NAMING),
             [stands_at(TEXT, own) for own in (0, 3, 5)]),
            ((3, 2, 0), 0, (2, 1, 0), ["front", 3, "back"]))

    def test_turned(self):
        self.assertEqual(
            (turned(NAMING), named((1, 3, 1, 2), turned(NAMING)), is_naming(3, NAMING), is_naming(2, NAMING),
             is_naming(3, ())),
            ((("last", (3,)), ("next", (1, 2)), ("next", (1,))), 5, True, False, False))

    def test_things(self):
        self.assertEqual(
            (is_ask(2, (7, "next", (1, 2))), is_ask(2, (0, "back", (1,))), is_ask(2, (0, "next", ()))),
            (True, False, False))

    def test_error(self):
        with self.assertRaises(NoPlace) as caught:
            found((), 2, "next", (1,))
        self.assertEqual(vars(caught.exception), {"place": 2})


class Found(unittest.TestCase):
    def test_all_short_texts_places_and_letters(self):
        for text in texts_to(2, 5) + texts_to(3, 4):
            for place in range(len(text) + 2):
                for side in ("next", "last"):
                    for letters in all_letters(3):
                        self.assertEqual(repr(found(text, place, side, letters)),
                                         repr(plain_found(text, place, side, letters)))

    def test_what_stands_elsewhere_is_not_seen(self):
        for text in texts_to(2, 4):
            for place in range(len(text) + 2):
                for letters in all_letters(2):
                    there = found(text, place, "next", letters)
                    for more in texts_to(2, 2) if there <= len(text) else []:
                        self.assertEqual(found(text[:there] + more, place, "next", letters), there)
                    back = found(text, place, "last", letters)
                    for more in texts_to(2, 2) if 0 < back else []:
                        self.assertEqual(
                            found(more + text[back - 1:], place - back + 1 + len(more), "last", letters), len(more) + 1)

    def test_long_texts(self):
        text = (1,) * 5000 + (2,) + (1,) * 5000
        self.assertEqual((found(text, 0, "next", (2, 3)), found(text, 10002, "last", (2,))), (5001, 5001))
        self.assertEqual((found(text, 5001, "next", (2,)), found(text, 5001, "last", (2,))), (10002, 0))

    def test_no_place(self):
        for text in texts_to(2, 3):
            for place in (-10 ** 30, -2, -1, len(text) + 2, len(text) + 3, 10 ** 30):
                for side in ("next", "last"):
                    with self.assertRaises(NoPlace) as caught:
                        found(text, place, side, (1,))
                    self.assertEqual(vars(caught.exception), {"place": place})
                with self.assertRaises(NoPlace) as caught:
                    stands_at(text, place)
                self.assertEqual(vars(caught.exception), {"place": place})


class Named(unittest.TestCase):
    def test_all_short_texts(self):
        for naming in NAMINGS:
            for text in texts_to(2, 4) + [TEXT, (3, 3, 1, 2, 3, 2, 1, 1)]:
                row = plain_row(text, naming)
                self.assertEqual(repr(row_named(text, naming)), repr(row))
                self.assertEqual(repr(named(text, naming)), repr(row[-1]))

    def test_one_pair(self):
        for text in texts_to(3, 3):
            for letters in all_letters(3):
                self.assertEqual(named(text, (("next", letters),)), plain_found(text, 0, "next", letters))
                self.assertEqual(named(text, (("last", letters),)), plain_found(text, len(text) + 1, "last", letters))

    def test_the_empty_text(self):
        for naming in NAMINGS:
            row = row_named((), naming)
            self.assertEqual(row, tuple(1 if side == "next" else 0 for side, _ in naming))

    def test_turned_round(self):
        for naming in NAMINGS:
            self.assertEqual(
                repr(turned(naming)), repr(tuple(({"next": "last", "last": "next"}[side], own) for side, own in naming)))
            self.assertEqual(turned(turned(naming)), naming)
            for text in texts_to(2, 4) + [TEXT, (3, 1, 3, 2, 2)]:
                row = row_named(turned_round(text), turned(naming))
                self.assertEqual(row, tuple(len(text) + 1 - own for own in row_named(text, naming)))
                self.assertEqual(named(turned_round(text), turned(naming)), len(text) + 1 - named(text, naming))

    def test_lists(self):
        self.assertEqual(repr(turned([["next", [3]], ["last", [1, 2]]])), "(('last', (3,)), ('next', (1, 2)))")
        self.assertEqual(repr(row_named([2, 1], [["next", [1]]])), "(2,)")


class StandsAt(unittest.TestCase):
    def test_places_and_ends(self):
        for text in texts_to(3, 4):
            told = [stands_at(text, place) for place in range(len(text) + 2)]
            self.assertEqual(repr(told), repr(["front", *text, "back"]))


def is_plain_letters(wide, thing):
    if type(thing) is not tuple or not thing or any(type(own) is not int for own in thing):
        return False
    return thing == tuple(own for own in range(1, wide + 1) if own in thing)


def is_plain_pair(wide, thing):
    if type(thing) is not tuple or len(thing) != 2 or type(thing[0]) is not str:
        return False
    return thing[0] in ("next", "last") and is_plain_letters(wide, thing[1])


def is_plain_ask(wide, thing):
    if type(thing) is not tuple or len(thing) != 3 or type(thing[0]) is not int:
        return False
    return thing[0] >= 0 and is_plain_pair(wide, thing[1:])


def is_plain_naming(wide, thing):
    return type(thing) is tuple and len(thing) > 0 and all(is_plain_pair(wide, own) for own in thing)


class Things(unittest.TestCase):
    OTHERS = ODD_THINGS[:50] + ("last", "back", "front", " next", "Next", (3,), (1, 2, 3), (2, 3))

    def check(self, thing):
        for wide in (1, 2, 3):
            self.assertIs(is_ask(wide, thing), is_plain_ask(wide, thing), (wide, thing))
            self.assertIs(is_naming(wide, thing), is_plain_naming(wide, thing), (wide, thing))
        self.assertIs(is_side(thing), type(thing) is str and thing in ("next", "last"), thing)

    def test_things_of_every_kind(self):
        for thing in self.OTHERS + ODD_THINGS:
            for own in (thing, (thing,), (0, "next", thing), (thing, "last", (1,)), (0, thing, (1,)), ("next", thing),
                        (("next", thing),), ((thing, (1, 2)),), (("next", (1,)), thing), (("next", (1,), thing),)):
                self.check(own)

    def test_sides(self):
        self.assertEqual([is_side(own) for own in ("next", "last", "back", "front", "", "NEXT", None, True, ("next",))],
                         [True, True] + [False] * 7)
        self.assertIs(is_side(["next"]), False)

    def test_good_ones(self):
        for naming in NAMINGS:
            self.check(naming)
            self.assertIs(is_naming(3, naming), True)
            self.assertIs(is_naming(1, naming), all(letters == (1,) for _, letters in naming))
            self.check(list(naming))
            self.check(tuple(list(own) for own in naming))
            self.check(tuple((side, list(letters)) for side, letters in naming))
        for spot in (0, 1, 2, 60, 10 ** 20):
            self.assertIs(is_ask(1, (spot, "last", (1,))), True)
            self.assertIs(is_ask(1, (-1 - spot, "last", (1,))), False)
            self.assertIs(is_ask(1, [spot, "last", (1,)]), False)
            self.assertIs(is_ask(1, (spot, "last", [1])), False)

    def test_great_ones(self):
        self.assertIs(is_naming(3, NAMING * 3000), True)
        self.assertIs(is_naming(3, NAMING * 3000 + (("next", ()),)), False)

    def test_one_part_changed(self):
        for good in (NAMING, (("next", (1,)),), (4, "next", (1, 2)), (0, "last", (3,))):
            for thing in [*swapped(good, self.OTHERS), *resized(good)]:
                self.check(thing)


if __name__ == "__main__":
    unittest.main()
