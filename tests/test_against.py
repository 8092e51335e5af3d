"""nextsuch/against.py: section 15 of the document."""

import unittest

from nextsuch.against import against, asks_needed, is_against, wall
from nextsuch.errors import CanNot, TooMuch, Unfit
from nextsuch.kinds import bar, kinds, texts_by
from nextsuch.made import made, made_backward, made_onward
from tests.plain import ODD_THINGS, plain_takes, resized, swapped, texts_to
from tests.plain_doings import (
    AHEAD, BEGINS, LAST, ODD, PAIRS, SMALL_KINDS, SOME, SOONER, TWICE, WITH_200, WITH_201, WITH_203, plain_doings, ring)
from tests.plain_trees import AHEAD_BACK, AHEAD_TREE, EARLY, NO, SHORT, YES, plain_gone, thrown_trees

TWICE_BAR = ("asks", (), (1, 2), (1,), ())
ONWARD_BAR = ("onward", (), (1,), (2,), (3,))
BACKWARD_BAR = ("backward", (), (2,), (1,), (1,))
COMING_BAR, LOOKS_BAR = ("coming", (1, 2), (2, 1)), ("looks", (), (1,), (2,), ())

# Trees of every manner, great ones that are made among them.
TREES = thrown_trees(151, 150)
for machine, own, told in SMALL_KINDS[::3]:
    for kind, function in (("asks", made), ("onward", made_onward), ("backward", made_backward)):
        if kind in told and len(plain_doings(own)) <= 24:
            TREES.append((len(own[0][0]), function(machine)))


def answers(tree, text):
    return plain_gone(tree, text)[2]


def plain_manners(tree):
    sides = {knot[2] for knot in tree if knot[0] == "ask"}
    return [manner for manner, side in (("onward", "next"), ("backward", "last")) if sides <= {side}]


class Examples(unittest.TestCase):
    def test_pairs(self):
        tree = AHEAD_TREE
        self.assertEqual(
            (is_against(PAIRS, tree, against(PAIRS, tree)), is_against(PAIRS, tree, ((1, 2, 1, 2), (1, 2, 1, 1, 2))),
             is_against(PAIRS, tree, ((1, 2), (1, 2, 1, 2)))),
            (True, True, False))
        self.assertEqual(
            (is_against(PAIRS, tree, ((), (1,))), is_against(PAIRS, YES, against(PAIRS, YES)),
             is_against(PAIRS, tree, [(1, 2), (1, 1, 2)])),
            (True, True, False))

    def test_walls(self):
        self.assertEqual(
            ([wall(TWICE_BAR, own) for own in (0, 1, 2, 3)], [asks_needed(TWICE_BAR, own) for own in (4, 5, 9, 40)]),
            ([5, 5, 9, 13], [0, 2, 3, 10]))
        self.assertEqual(wall(ONWARD_BAR, 4), 10)

    def test_manners(self):
        self.assertEqual((kinds(BEGINS), is_against(BEGINS, AHEAD_BACK, against(BEGINS, AHEAD_BACK))),
                         (("asks", "looks", "onward"), True))

    def test_errors(self):
        for function, given, error in ((against, (AHEAD, AHEAD_TREE), CanNot), (wall, (COMING_BAR, 3), Unfit)):
            with self.assertRaises(error) as caught:
                function(*given)
            self.assertEqual(vars(caught.exception), {})


class Against(unittest.TestCase):
    def check(self, machine, tree, told):
        """told: the kinds of which the machine is. Whether a pair was told."""
        if "asks" in told and all(manner in told for manner in plain_manners(tree)):
            self.assertRaises(CanNot, against, machine, tree)
            return False
        pair = against(machine, tree)
        self.assertIs(type(pair), tuple)
        one, other = pair
        wide = len(machine[0][0])
        for text in pair:
            self.assertIs(type(text), tuple)
            self.assertTrue(all(type(letter) is int and 1 <= letter <= wide for letter in text))
        self.assertNotEqual(plain_takes(machine, one), plain_takes(machine, other), (machine, tree))
        self.assertIs(answers(tree, one), answers(tree, other), (machine, tree, pair))
        self.assertIs(is_against(machine, tree, pair), True)
        return True

    def test_a_pair_exactly_where_it_is_said(self):
        tried, barred = {}, 0
        for at, (machine, own, told) in enumerate(SMALL_KINDS):
            for wide, tree in TREES[at % 9::9]:
                if wide == len(own[0][0]):
                    if self.check(machine, tree, told):
                        manner = tuple(plain_manners(tree))
                        tried[manner] = tried.get(manner, 0) + 1
                    else:
                        barred += 1
        self.assertEqual(len(tried), 4)
        self.assertGreater(min(tried.values()), 30, tried)
        self.assertGreater(barred, 100)

    def test_of_asks_but_not_of_the_manner(self):
        self.assertTrue(self.check(BEGINS, AHEAD_BACK, ("asks", "onward")))
        self.assertFalse(self.check(BEGINS, AHEAD_TREE, ("asks", "onward")))
        self.assertTrue(self.check(LAST, SHORT, ("asks", "backward")))
        self.assertFalse(self.check(LAST, AHEAD_BACK, ("asks", "backward")))
        for tree in (SHORT, AHEAD_BACK):
            wider = ("ask",) + tree[0][1:3] + ((1, 3),) + tree[0][4:]
            self.assertTrue(self.check(SOONER, (wider,) + tree[1:], ("asks",)))
        self.assertFalse(self.check(SOONER, EARLY, ("asks",)))
        self.assertFalse(self.check(SOME, EARLY, ("asks", "backward", "onward")))

    def test_a_tree_of_one_knot(self):
        # It is of both manners.
        for tree in (YES, NO):
            for machine, told in ((PAIRS, ()), (BEGINS, ("asks", "onward")), (LAST, ("asks", "backward")),
                                  (SOONER, ("asks",)), (ring(2), ())):
                self.assertTrue(self.check(machine, tree, told))
            for machine in (SOME, AHEAD, (((0, 0),), ()), (((0,),), (0,))):
                self.assertRaises(CanNot, against, machine, tree)

    def test_deep_trees(self):
        for many in (10, 40):
            for side in ("next", "last"):
                first, end = (0, 1) if side == "next" else (1, 0)
                tree = tuple(("ask", at + 1 if at else first, side, (1 + at % 2,), at + 1) for at in range(many)) + (
                    ("order", many + 1, end, many + 1, many + 2, many + 1), ("say", True), ("say", False))
                for machine in (PAIRS, TWICE, ODD, WITH_200):
                    if len(machine[0][0]) == 2 or side == "next":
                        self.assertTrue(self.check(machine, tree, ()))

    def test_too_much_first_of_all(self):
        for machine in (WITH_201, WITH_203, ring(201)):
            for tree in (YES, NO, (("ask", 0, "next", (1,), 1), ("say", True))):
                with self.assertRaises(TooMuch) as caught:
                    against(machine, tree)
                self.assertEqual(vars(caught.exception), {})
        self.assertTrue(self.check(WITH_200, (("ask", 0, "next", (1, 3), 1), ("say", True)), ()))
        self.assertTrue(self.check(ring(200), YES, ()))


class IsAgainst(unittest.TestCase):
    def plain(self, machine, tree, thing):
        wide = len(machine[0][0])
        if type(thing) is not tuple or len(thing) != 2:
            return False
        for text in thing:
            if type(text) is not tuple or any(type(own) is not int or not 1 <= own <= wide for own in text):
                return False
        one, other = thing
        return plain_takes(machine, one) != plain_takes(machine, other) and answers(tree, one) == answers(tree, other)

    GOOD = ((PAIRS, AHEAD_TREE, ((1, 2, 1, 2), (1, 2, 1, 1, 2))), (PAIRS, AHEAD_TREE, ((), (1,))),
            (BEGINS, AHEAD_BACK, ((1, 2), (2,))), (ODD, YES, ((1,), (1, 1))))

    def test_all_short_pairs(self):
        for machine, tree, _ in self.GOOD:
            for one in texts_to(2, 4):
                for other in texts_to(2, 3):
                    self.assertIs(is_against(machine, tree, (one, other)), self.plain(machine, tree, (one, other)))

    def test_each_condition_alone(self):
        self.assertIs(is_against(PAIRS, AHEAD_TREE, ((), (1,))), True)
        # Both are taken; none is; they are answered unlike; a letter too great.
        for thing in (((), (1, 2)), ((1,), (2,)), ((1, 2), (2,)), ((), (3,)), ((), (1,), ()), ((),)):
            self.assertIs(is_against(PAIRS, AHEAD_TREE, thing), False, thing)
        self.assertIs(is_against(PAIRS, YES, ((), (1,))), True)

    def test_things_of_every_kind(self):
        for machine, tree, good in self.GOOD:
            for thing in ODD_THINGS + (list(good), good + good, good[0], (good,), (list(good[0]), good[1])):
                self.assertIs(is_against(machine, tree, thing), self.plain(machine, tree, thing), thing)
            for thing in [*swapped(good, ODD_THINGS[:56] + (3,)), *resized(good)]:
                self.assertIs(is_against(machine, tree, thing), self.plain(machine, tree, thing), thing)

    def test_great_texts(self):
        self.assertIs(is_against(PAIRS, AHEAD_TREE, ((1, 2) * 3000, (1, 2) * 2000 + (1,) + (1, 2) * 1000)), True)
        self.assertIs(is_against(PAIRS, AHEAD_TREE, ((1, 2) * 3000, (1, 2) * 2000)), False)


class Walls(unittest.TestCase):
    BARS = [TWICE_BAR, ONWARD_BAR, BACKWARD_BAR, ("asks", (1,), (1, 2, 2), (2, 1, 2, 1, 1), (2, 2, 2)),
            ("onward", (2,), (1, 1, 1), (), (2, 3)), ("backward", (3, 3), (1,), (2, 2), ())] + [
        bar(machine, kind) for machine, own, told in SMALL_KINDS[::12] for kind in ("asks", "backward", "onward")
        if kind not in told]

    def test_the_longer_one_by_number(self):
        for own in self.BARS:
            told = [max(len(text) for text in texts_by(own, number)) for number in range(1, 12)]
            self.assertEqual([wall(own, number) for number in range(12)], told[:1] + told)
            self.assertEqual([wall(list(own), number) for number in range(12)], told[:1] + told)

    def test_the_least_number_whose_wall_is_above(self):
        for own in self.BARS:
            for size in range(60):
                plain = next(number for number in range(100) if wall(own, number) > size)
                self.assertEqual(repr(asks_needed(own, size)), repr(plain))

    def test_great_numbers(self):
        self.assertEqual(wall(TWICE_BAR, 10 ** 30), 4 * 10 ** 30 + 1)
        self.assertEqual(asks_needed(TWICE_BAR, 4 * 10 ** 30), 10 ** 30)
        self.assertEqual(asks_needed(TWICE_BAR, 4 * 10 ** 30 + 1), 10 ** 30 + 1)

    def test_so_few_asks_answer_both_alike(self):
        for machine, own, told in SMALL_KINDS[::7]:
            for wide, tree in TREES[::5]:
                asks = max(1, len([knot for knot in tree if knot[0] == "ask"]))
                for kind in ["asks"] + plain_manners(tree):
                    if wide == len(own[0][0]) and kind not in told:
                        one, other = texts_by(bar(machine, kind), asks)
                        self.assertIs(answers(tree, one), answers(tree, other))

    def test_another_word(self):
        for own in (COMING_BAR, LOOKS_BAR, list(LOOKS_BAR)):
            for number in (0, 1, 2, 50):
                for function in (wall, asks_needed):
                    with self.assertRaises(Unfit) as caught:
                        function(own, number)
                    self.assertEqual(vars(caught.exception), {})


if __name__ == "__main__":
    unittest.main()
