"""nextsuch/changes.py: section 18 of the document."""

import unittest

from nextsuch.changes import asked_again, can_turn, gone_over, place_behind, touched_by, turning
from nextsuch.errors import NoPlace
from nextsuch.made import made
from nextsuch.words import is_change
from tests.plain import texts_to
from tests.plain_doings import AHEAD, SOONER
from tests.plain_looks import long_texts
from tests.plain_trees import EARLY, NO, SHORT, YES, plain_found, plain_gone, thrown_trees

TREES = thrown_trees(191, 120) + [(2, made(AHEAD)), (3, made(SOONER))]
LONGEST = {1: 4, 2: 4, 3: 3}


def plain_changes(wide, text):
    """All changes of text, ascending."""
    size = len(text)
    drops = [("drop", place) for place in range(1, size + 1)]
    puts = [("put", place, letter) for place in range(1, size + 2) for letter in range(1, wide + 1)]
    turns = [("turn", place, letter) for place in range(1, size + 1) for letter in range(1, wide + 1)]
    return sorted(drops + puts + turns)


def marked_changed(text, change):
    """What is at 0, 1, .. behind change: pairs of the place that it had, None for a new one, and of what stands there."""
    row = [(0, "front")] + [(at + 1, letter) for at, letter in enumerate(text)] + [(len(text) + 1, "back")]
    word, place = change[:2]
    if word == "put":
        return row[:place] + [(None, change[2])] + row[place:]
    if word == "drop":
        return row[:place] + row[place + 1:]
    return row[:place] + [(place, change[2])] + row[place + 1:]


def plain_changed(text, change):
    return tuple(own for _, own in marked_changed(text, change)[1:-1])


def plain_place(text, change, place):
    places = [own for own, _ in marked_changed(text, change)]
    return places.index(place) if place in places else None


def plain_over(tree, text):
    """The ASKS of the run by a plain walk: for each (spot, side, near, far, letters)."""
    told, places = [], [0, len(text) + 1]
    for own in plain_gone(tree, text)[0]:
        knot = tree[own]
        if knot[0] == "ask":
            near = places[knot[1]]
            far = plain_found(text, near, knot[2], knot[3])
            places.append(far)
            told.append((knot[1], knot[2], near, far, knot[3]))
    return told


def is_plainly_touched(ask, change):
    """By the words of section 18."""
    _, side, near, far, letters = ask
    word, place = change[:2]
    if word == "put":
        return change[2] in letters and min(near, far) < place <= max(near, far)
    if word == "drop":
        return place == far
    return place == far and change[2] not in letters or min(near, far) < place < max(near, far) and change[2] in letters


def plain_again(asks, change):
    again = set()
    for number, ask in enumerate(asks):
        if is_plainly_touched(ask, change) or ask[0] - 2 in again:
            again.add(number)
    return tuple(sorted(again))


def all_runs():
    for at, (wide, tree) in enumerate(TREES):
        for text in texts_to(wide, LONGEST[wide])[at % 3::3] + long_texts(at, wide, 1, 9):
            yield wide, tree, text


class Examples(unittest.TestCase):
    def test_gone_over(self):
        self.assertEqual(
            (gone_over(EARLY, (1, 2, 1)), gone_over(EARLY, ())),
            ((("next", 0, 2, (2,)), ("last", 2, 1, (1,))), (("next", 0, 1, (2,)), ("last", 1, 0, (1,)))))

    def test_touched(self):
        self.assertEqual(
            [touched_by(EARLY, (1, 2, 1), own) for own in (
                ("put", 1, 2), ("put", 3, 2), ("drop", 2), ("drop", 1), ("turn", 1, 1), ("turn", 2, 1))],
            [(0,), (), (0,), (1,), (), (0,)])
        self.assertEqual([asked_again(EARLY, (1, 2, 1), own) for own in (("put", 1, 2), ("drop", 1), ("put", 4, 2))],
                         [(0, 1), (1,), ()])

    def test_turning(self):
        self.assertEqual(
            can_turn(2, EARLY, (1, 2, 1)),
            (("drop", 1), ("drop", 2), ("put", 1, 2), ("put", 2, 1), ("put", 2, 2), ("turn", 1, 2), ("turn", 2, 1)))
        self.assertEqual(
            (turning(2, EARLY, (1, 2, 1)), [place_behind((1, 2, 1), own, 2) for own in (
                ("put", 2, 1), ("put", 3, 1), ("drop", 1), ("drop", 2), ("turn", 2, 1))]),
            ((("drop", 1), ("put", 1, 2), ("turn", 1, 2)), [3, 2, 1, None, 2]))

    def test_error(self):
        with self.assertRaises(NoPlace) as caught:
            touched_by(EARLY, (1, 2, 1), ("drop", 4))
        self.assertEqual(vars(caught.exception), {"place": 4})


class Runs(unittest.TestCase):
    def test_gone_over_by_a_plain_walk(self):
        for wide, tree, text in all_runs():
            plain = tuple(own[1:] for own in plain_over(tree, text))
            self.assertEqual(repr(gone_over(tree, text)), repr(plain), (tree, text))

    def test_touched_and_asked_again(self):
        further = 0
        for wide, tree, text in all_runs():
            asks = plain_over(tree, text)
            for change in plain_changes(wide, text):
                plain = tuple(number for number, ask in enumerate(asks) if is_plainly_touched(ask, change))
                again = plain_again(asks, change)
                further += again != plain
                self.assertEqual(repr(touched_by(tree, text, change)), repr(plain), (tree, text, change))
                self.assertEqual(repr(asked_again(tree, text, change)), repr(again), (tree, text, change))
        self.assertGreater(further, 100)

    def test_all_changes_that_can_turn(self):
        for wide, tree, text in all_runs():
            asks, changes = plain_over(tree, text), plain_changes(wide, text)
            self.assertTrue(all(is_change(wide, change) for change in changes))
            plain = tuple(own for own in changes if any(is_plainly_touched(ask, own) for ask in asks))
            self.assertEqual(repr(can_turn(wide, tree, text)), repr(plain), (tree, text))
            yes = plain_gone(tree, text)[2]
            turned = tuple(own for own in changes if plain_gone(tree, plain_changed(text, own))[2] != yes)
            # No other one turns the answer, so it need not be asked whether it is one of those.
            self.assertEqual(repr(turning(wide, tree, text)), repr(turned), (tree, text))
            self.assertLessEqual({*turned}, {*plain})

    def test_what_is_not_asked_again_finds_what_it_found(self):
        for wide, tree, text in all_runs():
            asks, way = plain_over(tree, text), plain_gone(tree, text)[0]
            for change in plain_changes(wide, text):
                new = plain_changed(text, change)
                new_asks, new_way = plain_over(tree, new), plain_gone(tree, new)[0]
                again, touched = asked_again(tree, text, change), touched_by(tree, text, change)
                asked = -1
                for own, there in zip(way, new_way):
                    if own != there:
                        break
                    if tree[own][0] == "ask":
                        asked += 1
                        moved = plain_place(text, change, asks[asked][3])
                        if asked not in again:
                            self.assertEqual(new_asks[asked][3], moved, (tree, text, change))
                        if touched[:1] == (asked,):
                            self.assertNotEqual(new_asks[asked][3], moved, (tree, text, change))
                if touched == ():
                    self.assertEqual(new_way, way)
                    self.assertEqual(again, ())

    def test_the_first_one_touched_is_come_to_again(self):
        # Up to it nothing is found otherwise, so the way leads there.
        for wide, tree, text in all_runs():
            for change in can_turn(wide, tree, text)[::3]:
                first = touched_by(tree, text, change)[0]
                self.assertEqual([own[0] for own in plain_over(tree, plain_changed(text, change))[:first + 1]],
                                 [own[0] for own in plain_over(tree, text)[:first + 1]])

    def test_no_asks(self):
        for tree in (YES, NO, (("order", 0, 1, 1, 2, 2), ("say", True), ("say", False))):
            for text in texts_to(2, 2):
                self.assertEqual((gone_over(tree, text), can_turn(2, tree, text), turning(2, tree, text)), ((), (), ()))
                for change in plain_changes(2, text):
                    self.assertEqual((touched_by(tree, text, change), asked_again(tree, text, change)), ((), ()))

    def test_the_empty_text(self):
        self.assertEqual(can_turn(2, SHORT, ()), (("put", 1, 2),))
        self.assertEqual(turning(2, SHORT, ()), (("put", 1, 2),))
        self.assertEqual(can_turn(3, SHORT, ()), (("put", 1, 2),))

    def test_an_ask_from_an_end_outward(self):
        tree = (("ask", 0, "last", (1, 2), 1), ("ask", 1, "next", (1,), 2), ("say", True))
        for text in texts_to(2, 3):
            self.assertEqual(gone_over(tree, text),
                             (("last", 0, 0, (1, 2)), ("next", len(text) + 1, len(text) + 1, (1,))))
            self.assertEqual(can_turn(2, tree, text), ())

    def test_a_chain_of_asks_again(self):
        tree = (("ask", 0, "next", (1,), 1), ("ask", 2, "next", (1,), 2), ("ask", 1, "last", (2,), 3),
                ("ask", 3, "last", (2,), 4), ("ask", 4, "next", (2,), 5), ("say", True))
        self.assertEqual(touched_by(tree, (1, 2, 1, 2), ("turn", 1, 2)), (0,))
        self.assertEqual(asked_again(tree, (1, 2, 1, 2), ("turn", 1, 2)), (0, 1, 3))

    def test_long_texts(self):
        text = (1,) * 40 + (2,) + (1,) * 19
        self.assertEqual(gone_over(EARLY, text), (("next", 0, 41, (2,)), ("last", 41, 40, (1,))))
        told = can_turn(2, EARLY, text)
        self.assertEqual(len(told), 2 + 42 + 41)
        self.assertEqual(turning(2, EARLY, text), (("put", 1, 2), ("turn", 1, 2)))


class Places(unittest.TestCase):
    def test_against_the_changed_text(self):
        for wide in (1, 2, 3):
            for text in texts_to(wide, LONGEST[wide]):
                for change in plain_changes(wide, text):
                    for place in range(len(text) + 2):
                        self.assertEqual(repr(place_behind(text, change, place)),
                                         repr(plain_place(text, change, place)), (text, change, place))

    def test_the_ends(self):
        for text in texts_to(2, 3):
            for change in plain_changes(2, text):
                self.assertEqual(place_behind(text, change, 0), 0)
                self.assertEqual(place_behind(text, change, len(text) + 1), len(plain_changed(text, change)) + 1)

    def test_no_place(self):
        text = (1, 2, 1)
        for change in (("put", 5, 1), ("put", 0, 1), ("drop", 0), ("drop", 4), ("turn", 4, 2), ("turn", 0, 1),
                       ("drop", 10 ** 20), ("put", 9, 3)):
            for call in (lambda: touched_by(EARLY, text, change), lambda: asked_again(EARLY, text, change),
                         lambda: touched_by(YES, text, change), lambda: place_behind(text, change, 4)):
                with self.assertRaises(NoPlace) as caught:
                    call()
                self.assertEqual(vars(caught.exception), {"place": change[1]})

    def test_place_ahead_of_the_one_of_change(self):
        for place in (-1, 5, 10 ** 20):
            for change in (("drop", 4), ("put", 7, 1), ("turn", 1, 2), ("drop", 1)):
                with self.assertRaises(NoPlace) as caught:
                    place_behind((1, 2, 1), change, place)
                self.assertEqual(vars(caught.exception), {"place": place})


if __name__ == "__main__":
    unittest.main()
