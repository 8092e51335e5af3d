"""nextsuch/words.py: section 4 of the document, and what section 3 says of texts, places, letters and shorter."""

import unittest

from nextsuch.errors import NoPlace
from nextsuch.words import between, changed, is_change, is_letters, is_text, last_place, next_place, shorter
from tests.plain import ODD_THINGS, all_letters, listed, nested, resized, swapped, texts_to, turned_round

TEXT = (2, 1, 3, 1)


def is_plain_number(thing):
    return type(thing) is int


def is_plain_text(wide, thing):
    return type(thing) is tuple and all(is_plain_number(own) and 0 < own < wide + 1 for own in thing)


def is_plain_letters(wide, thing):
    if not is_plain_text(wide, thing) or thing == ():
        return False
    return thing in [own for own in all_letters(wide)]


def is_plain_change(wide, thing):
    if type(thing) is not tuple or len(thing) not in (2, 3) or type(thing[0]) is not str:
        return False
    if not is_plain_number(thing[1]) or thing[1] <= 0:
        return False
    if len(thing) == 2:
        return thing[0] == "drop"
    return thing[0] in ["put", "turn"] and is_plain_text(wide, thing[2:])


def plain_next(text, place, letters):
    return min([own for own, letter in enumerate(text, 1) if own > place and letter in letters] + [len(text) + 1])


def plain_last(text, place, letters):
    return max([own for own, letter in enumerate(text, 1) if own < place and letter in letters] + [0])


def plain_changed(text, change):
    """The text that comes; None if the change can't be made."""
    letters, place = list(text), change[1]
    there = range(1, len(text) + 1)
    if change[0] == "put" and (place in there or place == len(text) + 1):
        letters.insert(place - 1, change[2])
    elif change[0] == "drop" and place in there:
        letters.pop(place - 1)
    elif change[0] == "turn" and place in there:
        letters[place - 1] = change[2]
    else:
        return None
    return tuple(letters)


class Raises(unittest.TestCase):
    def assert_no_place(self, number, function, *rest):
        with self.assertRaises(NoPlace) as caught:
            function(*rest)
        self.assertIs(type(caught.exception.place), int)
        self.assertTrue(caught.exception.place == number, function)


class Examples(Raises):
    def test_next_and_last(self):
        self.assertEqual(
            ([next_place(TEXT, own, (1,)) for own in (0, 1, 2, 4, 5)],
             [last_place(TEXT, own, (1, 2)) for own in (0, 1, 2, 5)], next_place((), 0, (1,))),
            ([2, 2, 4, 5, 5], [0, 0, 1, 4], 1))

    def test_between(self):
        self.assertEqual((between(TEXT, 0, 5), between(TEXT, 1, 3), between(TEXT, 3, 3), between(TEXT, 4, 1)),
                         ((1, 2, 3), (1,), (), ()))

    def test_changed(self):
        self.assertEqual(
            (changed(TEXT, ("put", 5, 2)), changed(TEXT, ("put", 1, 3)), changed(TEXT, ("drop", 2)),
             changed(TEXT, ("turn", 4, 1))),
            ((2, 1, 3, 1, 2), (3, 2, 1, 3, 1), (2, 3, 1), (2, 1, 3, 1)))

    def test_shorter_and_things(self):
        self.assertEqual(
            (shorter((3,), (1, 1)), shorter((1, 2), (1, 3)), shorter((), ()), is_text(2, TEXT), is_letters(3, (1, 3)),
             is_letters(3, ()), is_change(2, ("turn", 9, 2))),
            (True, True, False, False, True, False, True))

    def test_errors(self):
        self.assert_no_place(6, next_place, TEXT, 6, (1,))
        self.assert_no_place(5, changed, TEXT, ("drop", 5))


class Asked(Raises):
    def test_all_short_texts_at_all_places(self):
        for text in texts_to(3, 4):
            for place in range(len(text) + 2):
                for letters in all_letters(3):
                    case = text, place, letters
                    self.assertEqual(next_place(*case), plain_next(*case), case)
                    self.assertEqual(last_place(*case), plain_last(*case), case)

    def test_guarantee_what_next_tells(self):
        for text in texts_to(2, 6):
            for place in range(len(text) + 2):
                for letters in all_letters(2):
                    told = next_place(text, place, letters)
                    self.assertTrue(told == len(text) + 1 or place < told <= len(text) and text[told - 1] in letters)
                    self.assertEqual([own for own in text[place:told - 1] if own in letters], [])

    def test_guarantee_last_is_next_turned_round(self):
        for text in texts_to(3, 5):
            back = len(text) + 1
            for place in range(back + 1):
                for letters in ((1,), (3,), (1, 2), (2, 3), (1, 2, 3)):
                    turned = next_place(turned_round(text), back - place, letters)
                    self.assertEqual(last_place(text, place, letters), back - turned)

    def test_guarantee_of_more_letters_the_nearer(self):
        for text in texts_to(3, 4):
            for place in range(len(text) + 2):
                for one in all_letters(3):
                    for other in all_letters(3):
                        more = tuple(sorted({*one, *other}))
                        self.assertEqual(next_place(text, place, more),
                                         min(next_place(text, place, one), next_place(text, place, other)))
                        self.assertEqual(last_place(text, place, more),
                                         max(last_place(text, place, one), last_place(text, place, other)))

    def test_the_empty_text(self):
        for letters in all_letters(3):
            self.assertEqual([next_place((), own, letters) for own in (0, 1)], [1, 1])
            self.assertEqual([last_place((), own, letters) for own in (0, 1)], [0, 0])

    def test_letters_that_the_text_has_not(self):
        self.assertEqual([next_place((1, 1), own, (2, 3)) for own in range(4)], [3, 3, 3, 3])
        self.assertEqual([last_place((1, 1), own, (2, 3)) for own in range(4)], [0, 0, 0, 0])

    def test_places_beyond_and_below(self):
        for text in texts_to(2, 3):
            for place in (-10 ** 30, -2, -1, len(text) + 2, len(text) + 3, 10 ** 30, 10 ** 6000):
                self.assert_no_place(place, next_place, text, place, (1,))
                self.assert_no_place(place, last_place, text, place, (1,))

    def test_long_texts(self):
        text = (1,) * 30 + (2,) + (1,) * 29
        self.assertEqual((next_place(text, 0, (2,)), next_place(text, 31, (2,)), last_place(text, 61, (2,)),
                          last_place(text, 31, (2,))), (31, 61, 31, 0))
        longer = (1,) * 5000 + (3,) + (1,) * 5000
        self.assertEqual((next_place(longer, 0, (2, 3)), last_place(longer, 10002, (2, 3))), (5001, 5001))
        self.assertEqual((next_place(longer, 5001, (3,)), last_place(longer, 5001, (3,))), (10002, 0))


class Between(Raises):
    def test_all_short_texts_between_all_places(self):
        for text in texts_to(3, 5):
            for near in range(len(text) + 2):
                for far in range(len(text) + 2):
                    told = sorted({letter for own, letter in enumerate(text, 1) if near < own and own < far})
                    self.assertEqual(repr(between(text, near, far)), repr(tuple(told)), (text, near, far))

    def test_the_empty_text(self):
        self.assertEqual([between((), one, other) for one in (0, 1) for other in (0, 1)], [(), (), (), ()])

    def test_the_first_wrong_number_is_told(self):
        for near in (-5, -1, 5, 6, 10 ** 30):
            for far in (-7, -1, 0, 2, 4, 5, 8):
                self.assert_no_place(near, between, (1, 2, 1), near, far)
        for near in (0, 1, 3, 4):
            for far in (-7, -1, 5, 8, 10 ** 6000):
                self.assert_no_place(far, between, (1, 2, 1), near, far)
        self.assert_no_place(2, between, (), 2, 3)
        self.assert_no_place(-1, between, (), 1, -1)


class Changed(Raises):
    def test_all_single_changes_of_short_texts(self):
        for text in texts_to(3, 4):
            for place in range(1, len(text) + 4):
                for change in [("drop", place)] + [(word, place, own) for word in ("put", "turn") for own in (1, 2, 3)]:
                    told = plain_changed(text, change)
                    if told is None:
                        self.assert_no_place(place, changed, text, change)
                    else:
                        self.assertEqual(repr(changed(text, change)), repr(told), (text, change))

    def test_ends(self):
        self.assertEqual(changed((), ("put", 1, 3)), (3,))
        self.assertEqual(changed((1,), ("put", 2, 3)), (1, 3))
        self.assertEqual(changed((1,), ("drop", 1)), ())
        for change in (("put", 2, 1), ("drop", 1), ("turn", 1, 1), ("put", 10 ** 6000, 1)):
            self.assert_no_place(change[1], changed, (), change)

    def test_no_letter_is_put_dropped_or_turned_at_the_front(self):
        for change in (("put", 0, 1), ("drop", 0), ("turn", 0, 1), ("put", -1, 1), ("drop", -2), ("turn", -1, 1)):
            self.assert_no_place(change[1], changed, (1, 2, 3), change)

    def test_turned_to_what_stands_there(self):
        for text in texts_to(2, 4):
            for place, letter in enumerate(text, 1):
                self.assertEqual(changed(text, ("turn", place, letter)), text)

    def test_long_texts(self):
        text = (1, 2) * 1000
        self.assertEqual(changed(text, ("put", 2001, 3)), text + (3,))
        self.assertEqual(changed(text, ("drop", 1)), text[1:])
        self.assertEqual(changed(text, ("turn", 2000, 3)), text[:-1] + (3,))


class Shorter(unittest.TestCase):
    def test_all_pairs_of_short_texts(self):
        texts = texts_to(3, 4)
        for at, one in enumerate(texts):
            for there, other in enumerate(texts):
                self.assertIs(shorter(one, other), at < there)

    def test_a_long_lesser_text_is_not_shorter(self):
        self.assertIs(shorter((1,) * 61, (3,) * 60), False)
        self.assertIs(shorter((3,) * 60, (1,) * 61), True)
        self.assertIs(shorter((), (1,)), True)

    def test_lists_and_tuples_beside_each_other(self):
        for one in texts_to(2, 3):
            for other in texts_to(2, 3):
                told = shorter(one, other)
                self.assertIs(shorter(list(one), other), told)
                self.assertIs(shorter(one, list(other)), told)


class Things(unittest.TestCase):
    def check(self, function, plain, wide, thing):
        self.assertIs(function(wide, thing), plain(wide, thing), (function, wide, thing))

    def test_things_of_every_kind(self):
        for wide in (1, 2, 3):
            for thing in ODD_THINGS:
                self.check(is_text, is_plain_text, wide, thing)
                self.check(is_letters, is_plain_letters, wide, thing)
                self.check(is_change, is_plain_change, wide, thing)

    def test_good_ones_with_one_value_of_another_kind(self):
        for wide in (1, 2, 3):
            for good in ((1,), (1, 2), (1, 2, 3), (1, 3), (2, 1, 2)):
                for thing in [*swapped(good, ODD_THINGS), *resized(good), list(good)]:
                    self.check(is_text, is_plain_text, wide, thing)
                    self.check(is_letters, is_plain_letters, wide, thing)
            for good in (("put", 1, 2), ("turn", 4, 1), ("drop", 3), ("put", 61, 3), ("drop", 1), ("turn", 1, 3)):
                for thing in [*swapped(good, ODD_THINGS), *resized(good), list(good), good + (1, 2)]:
                    self.check(is_change, is_plain_change, wide, thing)

    def test_all_short_texts(self):
        for text in texts_to(4, 4):
            for wide in (1, 2, 3):
                self.assertIs(is_text(wide, text), max(text, default=1) <= wide, (wide, text))
                self.assertIs(is_letters(wide, text), text in all_letters(wide), (wide, text))

    def test_all_short_changes(self):
        words = ("put", "drop", "turn", "Put", "", "puts", "next", "pu", ("put",), ["drop"])
        for wide in (1, 2, 3):
            for word in words:
                for place in (-1, 0, 1, 2, 61, 10 ** 30):
                    self.check(is_change, is_plain_change, wide, (word, place))
                    for letter in (-1, 0, 1, 2, 3, 4, 10 ** 30):
                        self.check(is_change, is_plain_change, wide, (word, place, letter))

    def test_true_is_no_number(self):
        for thing in ((True,), (1, True), (False,), (True, 2)):
            self.assertIs(is_text(3, thing), False)
            self.assertIs(is_letters(3, thing), False)
        for thing in (("put", True, 1), ("put", 1, True), ("drop", True), ("turn", True, 1), ("turn", 1, True)):
            self.assertIs(is_change(3, thing), False)

    def test_a_list_is_no_tuple(self):
        for thing in ([], [1], [1, 2]):
            self.assertIs(is_text(3, thing), False)
            self.assertIs(is_letters(3, thing), False)
        for thing in (["put", 1, 1], ["drop", 1], ["turn", 1, 1], [("drop", 1)], (["put", 1, 1],)):
            self.assertIs(is_change(3, thing), False)
        self.assertIs(is_text(3, ()), True)

    def test_beyond_the_bounds(self):
        self.assertIs(is_text(3, (3, 1, 2) * 5000), True)
        self.assertIs(is_text(3, (3, 1, 2) * 5000 + (4,)), False)
        self.assertIs(is_letters(3, (1, 2, 3) * 5000), False)
        self.assertIs(is_change(1, ("put", 10 ** 6000, 1)), True)
        self.assertIs(is_change(1, ("drop", -10 ** 6000)), False)
        self.assertIs(is_change(1, ("put", 1) + (1,) * 5000), False)

    def test_nested_deep(self):
        for depth in (2, 50, 100):
            for kind in (tuple, list):
                thing = nested(depth, 1, kind)
                for own in (thing, (1, thing), ("drop", thing), ("put", 1, thing), (thing, 1, 1), ("put", thing, 1)):
                    self.assertIs(is_text(3, own), False)
                    self.assertIs(is_letters(3, own), False)
                    self.assertIs(is_change(3, own), False)

    def test_things_are_left_as_they_were(self):
        for thing in ODD_THINGS:
            for own in (thing, listed(thing, lambda depth: True)):
                ahead = repr(own)
                for function in (is_text, is_letters, is_change):
                    first = function(2, own)
                    self.assertIs(function(wide=2, thing=own), first)
                self.assertEqual(repr(own), ahead)


if __name__ == "__main__":
    unittest.main()
