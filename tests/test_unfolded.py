"""nextsuch/unfolded.py: section 12 of the document."""

import unittest

from nextsuch.chains import is_single, meeting
from nextsuch.errors import CanNot, TooMuch
from nextsuch.trees import shared
from nextsuch.unfolded import chain_of, cleaned, reached, unfolded
from tests.plain import texts_to
from tests.plain_trees import (
    EARLY, IDLE, NO, SOME_2, YES, come_to, is_plain_chain, is_plain_tree, plain_gone, plain_steps, plain_ways, renumbered,
    texts_of_depth, thrown_trees, with_leads)

TREES = thrown_trees(61, 150)
TEXTS = {wide: texts_to(wide, {1: 7, 2: 5, 3: 4}[wide]) for wide in (1, 2, 3)}

ANY = (1, 2, 3)


def any_letters(many):
    """The tree that asks so many times for the next letter: 1, 4, 13, .. ROWS with wide 3."""
    return tuple(("ask", at + 1 if at else 0, "next", ANY, at + 1) for at in range(many)) + (
        ("order", many + 1, 1, many + 1, many + 2, many + 2), ("say", True), ("say", False))


# Both ways, from what was found: marks come into sets that others have parted.
ZIGZAG = (("ask", 1, "last", ANY, 1), ("ask", 2, "last", (1,), 2), ("ask", 0, "next", ANY, 3),
          ("ask", 2, "last", (2, 3), 4), ("ask", 5, "last", (2, 3), 5), ("ask", 4, "next", ANY, 6),
          ("order", 6, 7, 7, 8, 8), ("say", True), ("say", False))


def in_a_row(many):
    """The tree that asks for the first 1, and then for the next one as long as there is one: many + 1 ROWS."""
    knots = []
    for at in range(many):
        knots += [("ask", at + 1 if at else 0, "next", (1,), 2 * at + 1),
                  ("order", at + 2, 1, 2 * at + 2, 2 * many + 1, 2 * many + 1)]
    return tuple(knots) + (("say", True), ("say", False))


def plain_row(wide, tree, text):
    """The ROW of text, by its run: what was found are marks, and what an ASK went over has none of its letters."""
    way, places, yes = plain_gone(tree, text)
    stops = sorted({0, len(text) + 1, *places})
    sets = [{*range(1, wide + 1)} for _ in stops[1:]]
    for own in way:
        knot = tree[own]
        if knot[0] == "ask":
            asks = len([ahead for ahead in way[:way.index(own)] if tree[ahead][0] == "ask"])
            near, far = sorted((places[knot[1]], places[asks + 2]))
            for at, inner in enumerate(sets):
                if near <= stops[at] and stops[at + 1] <= far:
                    inner -= {*knot[3]}
    marks = tuple(text[place - 1] for place in stops[1:-1])
    return (tuple(tuple(sorted(inner)) for inner in sets), marks), yes, tuple(stops.index(place) for place in places)


def plain_rows(wide, tree):
    """All ROWS: each is that of the TEXT of its marks, which are at most as many as the ASKS."""
    return sorted({plain_row(wide, tree, text) for text in texts_of_depth(wide, tree)})


def plain_cleaned_once(wide, tree):
    steps = plain_steps(tree, texts_of_depth(wide, tree))

    def goes_on(own):
        taken = sorted(steps[own])
        if tree[own][0] == "order" and len({tree[own][3 + at] for at in taken}) == 1:
            return goes_on(tree[own][3 + taken[0]])
        return own

    knots = []
    for own, knot in enumerate(tree):
        told = knot
        if own in steps and knot[0] == "ask":
            told = with_leads(knot, [goes_on(knot[4])])
        if own in steps and knot[0] == "order":
            first = min(steps[own])
            told = with_leads(knot, [goes_on(knot[3 + (at if at in steps[own] else first)]) for at in range(3)])
        knots.append(told)
    start = goes_on(0)
    seen = {start}
    for own in range(start, len(knots)):
        if own in seen:
            seen.update(knots[own][4:] if knots[own][0] == "ask" else knots[own][3:])
    return shared(renumbered(tuple(knots), sorted(seen)))


def plain_cleaned(wide, tree):
    told, many = plain_cleaned_once(wide, tree), len(tree)
    while len(told) < many:
        told, many = plain_cleaned_once(wide, told), len(told)
    return told


class Examples(unittest.TestCase):
    def test_rows(self):
        self.assertEqual(
            unfolded(2, SOME_2), [((((1,),), ()), False, (0, 1, 0)), ((((1, 2), (1,)), (2,)), True, (0, 2, 1))])
        self.assertEqual(
            (chain_of(2, EARLY, (1, 2)), len(unfolded(2, EARLY)), [own[1] for own in unfolded(2, EARLY)]),
            (((((1,), (), (1, 2)), (1, 2)), True, (0, 3, 2, 1)), 4, [False, False, True, True]))

    def test_idle(self):
        self.assertEqual(
            (reached(2, IDLE), cleaned(2, IDLE)),
            ((0, 1, 2, 4, 5), (("ask", 0, "next", (1,), 1), ("order", 2, 1, 2, 3, 2), ("say", True), ("say", False))))


class Rows(unittest.TestCase):
    def test_all_of_them(self):
        for wide, tree in TREES:
            self.assertEqual(repr(unfolded(wide, tree)), repr(plain_rows(wide, tree)), (wide, tree))

    def test_they_are_rows_and_ascend(self):
        for wide, tree in TREES:
            rows = unfolded(wide, tree)
            self.assertIs(type(rows), list)
            self.assertEqual(rows, sorted({*rows}))
            for chain, yes, where in rows:
                self.assertTrue(is_plain_chain(wide, chain))
                self.assertIs(type(yes), bool)
                self.assertEqual((where[0], where[1]), (0, len(chain[1]) + 1))

    def test_each_text_fits_just_one_in_one_way(self):
        for wide, tree in TREES[::2]:
            rows = unfolded(wide, tree)
            for text in TEXTS[wide]:
                found = [(row, way) for row in rows for way in plain_ways(row[0], text)]
                self.assertEqual(len(found), 1, (tree, text))
                (_, yes, where), way = found[0]
                stops = (0,) + way + (len(text) + 1,)
                _, places, answered = plain_gone(tree, text)
                self.assertEqual((yes, tuple(stops[own] for own in where)), (answered, places))

    def test_chain_of(self):
        for wide, tree in TREES:
            rows = unfolded(wide, tree)
            for text in TEXTS[wide][:90]:
                told = chain_of(wide, tree, text)
                self.assertEqual(repr(told), repr(plain_row(wide, tree, text)), (tree, text))
                self.assertIn(told, rows)
                self.assertEqual(len(plain_ways(told[0], text)), 1)

    def test_chain_of_long_texts(self):
        for wide, tree in TREES[::3]:
            for text in ((1,) * 60, tuple(1 + at * at % 5 % wide for at in range(60)), (wide,) * 30 + (1,) * 30):
                self.assertEqual(chain_of(wide, tree, text), plain_row(wide, tree, text))

    def test_they_are_single_and_no_text_fits_two(self):
        for wide, tree in TREES[::3]:
            rows = unfolded(wide, tree)
            for at, row in enumerate(rows):
                self.assertIs(is_single(row[0]), True)
                for other in rows[:at]:
                    self.assertRaises(CanNot, meeting, row[0], other[0])

    def test_one_knot(self):
        for wide in (1, 2, 3):
            letters = tuple(range(1, wide + 1))
            for tree, yes in ((YES, True), (NO, False)):
                row = (((letters,), ()), yes, (0, 1))
                self.assertEqual((unfolded(wide, tree), chain_of(wide, tree, ()), chain_of(wide, tree, (1, wide))),
                                 ([row], row, row))
                self.assertEqual((reached(wide, tree), cleaned(wide, tree)), ((0,), tree))

    def test_an_ask_from_what_is_found(self):
        # The first 1, then the last 2 ahead of it, then the next letter behind that: a mark in each set in turn.
        tree = (("ask", 0, "next", (1,), 1), ("ask", 2, "last", (2,), 2), ("ask", 3, "next", (1, 2, 3), 3), ("say", True))
        rows = unfolded(3, tree)
        self.assertEqual(rows, plain_rows(3, tree))
        self.assertIn(((((2, 3), (), (3,), (1, 2, 3)), (2, 3, 1)), True, (0, 4, 3, 1, 2)), rows)

    def test_asks_from_the_ends_outward(self):
        tree = (("ask", 0, "last", (1,), 1), ("ask", 1, "next", (1,), 2), ("order", 2, 3, 3, 4, 4), ("say", True),
                ("say", False))
        self.assertEqual(unfolded(1, tree), [((((1,),), ()), True, (0, 1, 0, 1))])


class Many(unittest.TestCase):
    def test_as_many_as_2000(self):
        tree = in_a_row(1999)
        rows = unfolded(1, tree)
        self.assertEqual(len(rows), 2000)
        self.assertEqual(rows[-1][1:], (True, (0, 2000) + tuple(range(1, 2000))))
        self.assertEqual(len(reached(1, tree)), len(tree))
        self.assertEqual(len(cleaned(1, tree)), len(tree))

    def test_more(self):
        for wide, tree in ((1, in_a_row(2000)), (3, any_letters(7)), (3, in_a_row(2300))):
            self.assertTrue(is_plain_tree(wide, tree))
            for function in (unfolded, reached, cleaned):
                with self.assertRaises(TooMuch) as caught:
                    function(wide, tree)
                self.assertEqual(vars(caught.exception), {})
            for text in ((), (1, 1), (1,) * 40):
                self.assertEqual(chain_of(wide, tree, text), plain_row(wide, tree, text))

    def test_six_asks(self):
        for tree in (any_letters(6), ZIGZAG):
            self.assertTrue(is_plain_tree(3, tree))
            self.assertEqual(unfolded(3, tree), plain_rows(3, tree))
        self.assertEqual((len(unfolded(3, any_letters(6))), len(unfolded(3, ZIGZAG))), (1093, 661))

    def test_the_list_is_new(self):
        rows = unfolded(2, EARLY)
        rows.pop()
        rows[0] = None
        self.assertEqual((len(unfolded(2, EARLY)), len(rows)), (4, 3))


class Reached(unittest.TestCase):
    def test_by_the_runs_of_all_texts(self):
        left_out = 0
        for wide, tree in TREES:
            told = reached(wide, tree)
            self.assertEqual(repr(told), repr(tuple(sorted(plain_steps(tree, texts_of_depth(wide, tree, 1))))))
            left_out += len(told) < len(tree)
        self.assertGreater(left_out, 20)


class Cleaned(unittest.TestCase):
    def test_it_answers_alike_and_each_knot_is_come_to(self):
        for wide, tree in TREES:
            told = cleaned(wide, tree)
            self.assertTrue(is_plain_tree(wide, told), told)
            self.assertEqual(come_to(told), list(range(len(told))))
            for text in TEXTS[wide][:90]:
                self.assertIs(plain_gone(told, text)[2], plain_gone(tree, text)[2])
            steps = plain_steps(told, texts_of_depth(wide, tree))
            self.assertEqual(sorted(steps), list(range(len(told))))
            for own, taken in steps.items():
                if told[own][0] == "order":
                    ways = told[own][3:]
                    self.assertGreater(len({ways[at] for at in taken}), 1, told)
                    for at in range(3):
                        self.assertTrue(at in taken or ways[at] == ways[min(taken)], (tree, told))

    def test_the_knots_that_are_left(self):
        for wide, tree in TREES:
            self.assertEqual(repr(cleaned(wide, tree)), repr(plain_cleaned(wide, tree)), (wide, tree))

    def test_the_asks_that_are_asked_stay(self):
        for wide, tree in TREES:
            told = cleaned(wide, tree)
            for text in TEXTS[wide][:40]:
                self.assertEqual(plain_gone(told, text)[1], plain_gone(tree, text)[1])

    def test_it_is_shared_and_stays_as_it_is(self):
        for wide, tree in TREES:
            told = cleaned(wide, tree)
            self.assertEqual(repr(shared(told)), repr(told))
            self.assertEqual(repr(cleaned(wide, told)), repr(told))

    def test_it_goes_on_as_long_as_knots_get_fewer(self):
        # Both orders behind the first one come to say the same: so all go on to one knot from that one, too.
        tree = (("ask", 0, "next", (1,), 1), ("order", 2, 1, 2, 3, 3), ("order", 0, 2, 4, 5, 5), ("order", 0, 2, 6, 7, 7),
                ("say", True), ("say", False), ("say", True), ("say", False))
        self.assertEqual(cleaned(1, tree), (("ask", 0, "next", (1,), 1), ("say", True)))
        # An order that all leave by one way stands ahead of one that tells.
        tree = (("order", 1, 0, 1, 1, 2), ("say", True), ("ask", 0, "next", (1,), 3), ("order", 1, 2, 4, 5, 6),
                ("say", True), ("say", False), ("say", True))
        self.assertEqual(cleaned(1, tree), (("ask", 0, "next", (1,), 1), ("order", 1, 2, 2, 2, 3), ("say", False),
                                            ("say", True)))

    def test_the_first_way_that_some_text_takes(self):
        # What is found lies never ahead of the front: there one goes on as at the front.
        tree = (("ask", 1, "last", (1,), 1), ("order", 2, 0, 2, 3, 2), ("say", True), ("say", False))
        self.assertEqual(cleaned(2, tree), (("ask", 1, "last", (1,), 1), ("order", 2, 0, 2, 2, 3), ("say", False),
                                            ("say", True)))

    def test_an_order_of_the_ends(self):
        self.assertEqual(cleaned(2, (("order", 0, 1, 1, 2, 2), ("say", True), ("say", False))), YES)
        self.assertEqual(cleaned(3, (("order", 1, 0, 1, 1, 2), ("say", True), ("say", False))), NO)


if __name__ == "__main__":
    unittest.main()
