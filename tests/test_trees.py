"""nextsuch/trees.py: section 10 of the document, and what section 3 says of trees."""

import unittest

from nextsuch.trees import (
    answer, asks_ahead, depth, is_tree, manners, run, shared, tree_contrary, tree_joined, tree_mirrored, way_of)
from tests.plain import ODD_THINGS, WORDS, Dice, plain_word, resized, swapped, texts_to, turned_round
from tests.plain_trees import (
    AHEAD_BACK, AHEAD_TREE, EARLY, IDLE, NO, SHORT, SOME_2, YES, behaviours, counts_ahead, in_other_order, is_plain_tree,
    leads, plain_gone, spots, texts_of_depth, thrown_trees, unshared, ways_down)

TREES = thrown_trees(41, 160)
TEXTS = {wide: texts_to(wide, {1: 8, 2: 6, 3: 4}[wide]) for wide in (1, 2, 3)}


class Examples(unittest.TestCase):
    def test_early(self):
        self.assertEqual(
            (is_tree(2, EARLY), is_tree(1, EARLY), depth(EARLY), manners(EARLY), asks_ahead(EARLY)),
            (True, False, 2, (), (0, 1, 2, 2, 2)))
        self.assertEqual(
            (run(EARLY, (2, 1, 2)), run(EARLY, (1, 2)), answer(EARLY, ()), way_of(EARLY, (1, 1))),
            (((0, 4, 1, 0), False), ((0, 3, 2, 1), True), False, (0, 1, 2, 4)))

    def test_some(self):
        self.assertEqual(
            (manners(SOME_2), [answer(SOME_2, own) for own in ((1, 1), (1, 2), ())],
             answer(tree_contrary(SOME_2), (1, 1))),
            (("backward",), [False, True, False], True))

    def test_joined(self):
        self.assertEqual(
            (tree_joined(SOME_2, SOME_2, "unlike"), tree_joined(EARLY, SOME_2, "both")[5:]),
            ((("ask", 1, "last", (2,), 1), ("order", 0, 2, 2, 3, 3), ("ask", 1, "last", (2,), 4),
              ("ask", 1, "last", (2,), 5), ("order", 0, 3, 6, 7, 7), ("order", 0, 3, 7, 6, 6), ("say", False),
              ("say", True)), (("say", False), ("say", True))))

    def test_shared_and_mirrored(self):
        self.assertEqual(shared((("order", 0, 1, 1, 2, 2), ("say", True), ("say", True))),
                         (("order", 0, 1, 1, 1, 1), ("say", True)))
        self.assertEqual(
            tree_mirrored(SOME_2),
            (("ask", 0, "next", (2,), 1), ("order", 1, 2, 3, 3, 2), ("say", True), ("say", False)))


class Runs(unittest.TestCase):
    def test_all_texts_to_a_length(self):
        for wide, tree in TREES:
            for text in TEXTS[wide]:
                way, places, yes = plain_gone(tree, text)
                self.assertEqual(repr(run(tree, text)), repr((places, yes)), (tree, text))
                self.assertIs(answer(tree, text), yes)
                self.assertEqual(repr(way_of(tree, text)), repr(way))

    def test_a_tree_of_one_knot(self):
        for wide in (1, 2, 3):
            for text in TEXTS[wide][:20]:
                self.assertEqual((run(YES, text), run(NO, text)), (((0, len(text) + 1), True), ((0, len(text) + 1), False)))
                self.assertEqual((way_of(YES, text), way_of(NO, text)), ((0,), (0,)))

    def test_the_empty_text(self):
        for wide, tree in TREES:
            way, places, yes = plain_gone(tree, ())
            self.assertEqual((run(tree, ()), answer(tree, ()), way_of(tree, ())), ((places, yes), yes, way))
            self.assertLessEqual({*places}, {0, 1})

    def test_long_texts(self):
        for wide, tree in TREES[::4]:
            for text in ((1,) * 60, tuple(1 + at * at % 5 % wide for at in range(60)), (1,) * 3000 + (wide,) * 3000):
                way, places, yes = plain_gone(tree, text)
                self.assertEqual((run(tree, text), way_of(tree, text)), ((places, yes), way))

    def test_an_order_with_ends(self):
        # The front is at 0 and the back at n + 1, also of the empty TEXT.
        for one, other, told in ((0, 1, True), (1, 0, False)):
            tree = (("order", one, other, 1, 2, 2), ("say", True), ("say", False))
            self.assertEqual([answer(tree, text) for text in ((), (1,), (1, 1))], [told] * 3)
        tree = (("ask", 0, "next", (1,), 1), ("order", 2, 1, 2, 3, 2), ("say", True), ("say", False))
        self.assertEqual([answer(tree, text) for text in ((), (2,), (1,), (2, 1))], [False, False, True, True])
        tree = (("ask", 1, "next", (1,), 1), ("ask", 0, "last", (1,), 2), ("order", 2, 1, 4, 3, 4), ("order", 3, 0, 4, 5, 4),
                ("say", False), ("say", True))
        self.assertEqual({answer(tree, text) for text in texts_to(2, 3)}, {True})


class Told(unittest.TestCase):
    def test_asks_ahead_and_depth(self):
        for wide, tree in TREES:
            counts = [max(own) for own in counts_ahead(tree)]
            self.assertEqual(repr(asks_ahead(tree)), repr(tuple(counts)))
            self.assertEqual(repr(depth(tree)), repr(max(counts)))
            longest = max(len([own for own in way if tree[own][0] == "ask"]) for way in ways_down(tree))
            self.assertEqual(depth(tree), longest)

    def test_the_greatest_number_is_told(self):
        tree = (("order", 0, 1, 1, 2, 2), ("ask", 0, "next", (1,), 2), ("say", True))
        self.assertEqual((is_tree(1, tree), asks_ahead(tree), depth(tree)), (True, (0, 0, 1), 1))

    def test_manners(self):
        for wide, tree in TREES:
            sides = {knot[2] for knot in tree if knot[0] == "ask"}
            plain = (["backward"] if sides <= {"last"} else []) + (["onward"] if sides <= {"next"} else [])
            self.assertEqual(repr(manners(tree)), repr(tuple(plain)))
        self.assertEqual((manners(YES), manners(SHORT), manners(AHEAD_BACK), manners(EARLY)),
                         (("backward", "onward"), ("onward",), ("backward",), ()))


def ahead_on_the_longest_way(tree):
    ahead = [0] * len(tree)
    for way in ways_down(tree):
        for at, own in enumerate(way):
            ahead[own] = max(ahead[own], at)
    return ahead


class Shared(unittest.TestCase):
    def test_it_does_the_same(self):
        for wide, tree in TREES:
            told = shared(tree)
            self.assertTrue(is_plain_tree(wide, told), told)
            self.assertEqual(behaviours(told)[0], behaviours(tree)[0])
            for text in TEXTS[wide][:40]:
                self.assertEqual(plain_gone(told, text)[1:], plain_gone(tree, text)[1:])

    def test_the_fewest_knots(self):
        for wide, tree in TREES:
            self.assertEqual(len(shared(tree)), len({*behaviours(tree)}), tree)

    def test_the_numbers_of_its_knots(self):
        for wide, tree in TREES:
            told = shared(tree)
            ahead = ahead_on_the_longest_way(told)
            self.assertEqual(ahead, sorted(ahead))
            # Among knots with equally many ahead: by the first knot that goes on to each, then as its numbers stand.
            firsts = [min(((own, leads(knot).index(there)) for own, knot in enumerate(told) if there in leads(knot)),
                          default=(-1, 0)) for there in range(len(told))]
            keys = list(zip(ahead, firsts))
            self.assertEqual(keys, sorted(keys), told)
            self.assertEqual(len(keys), len({*keys}))

    def test_one_for_all_that_do_the_same(self):
        dice = Dice(42)
        for wide, tree in TREES:
            told = repr(shared(tree))
            apart = unshared(tree)
            self.assertEqual(repr(shared(apart)), told)
            self.assertEqual(repr(shared(in_other_order(dice, tree))), told)
            self.assertEqual(repr(shared(in_other_order(dice, apart))), told)
            self.assertEqual(repr(shared(shared(tree))), told)

    def test_unlike_ones_have_unlike_trees(self):
        told = {}
        for wide, tree in TREES:
            self.assertEqual(told.setdefault(shared(tree), behaviours(tree)[0]), behaviours(tree)[0])

    def test_as_many_asks_ahead(self):
        # Both orders are alike but for the ASKS ahead of them: they stay two. What says the same is one.
        tree = (("order", 0, 1, 1, 2, 2), ("ask", 0, "next", (1,), 3), ("order", 0, 1, 4, 5, 5), ("order", 0, 1, 4, 5, 5),
                ("say", True), ("say", False))
        self.assertTrue(is_plain_tree(1, tree))
        self.assertEqual(shared(tree), (
            ("order", 0, 1, 1, 2, 2), ("ask", 0, "next", (1,), 3), ("order", 0, 1, 4, 5, 5), ("order", 0, 1, 4, 5, 5),
            ("say", True), ("say", False)))
        tree = (("order", 0, 1, 1, 2, 3), ("order", 0, 1, 4, 5, 5), ("order", 0, 1, 4, 6, 6), ("say", False),
                ("say", True), ("say", False), ("say", False))
        # The order is one knot ahead of both; knot 0 goes on to the one that says False first.
        self.assertEqual(
            shared(tree), (("order", 0, 1, 1, 1, 2), ("order", 0, 1, 3, 2, 2), ("say", False), ("say", True)))

    def test_an_order_that_goes_on_to_one_knot_stays(self):
        tree = (("order", 1, 0, 1, 2, 3), ("say", True), ("say", True), ("say", True))
        self.assertEqual(shared(tree), (("order", 1, 0, 1, 1, 1), ("say", True)))

    def test_one_knot(self):
        self.assertEqual((shared(YES), shared(NO), shared([["say", False]])), (YES, NO, NO))

    def test_great_ones(self):
        # A way for each of 2 ** 40 rows of answers: one by one they are never gone.
        knots = []
        for at in range(40):
            knots += [("order", 0, 1, 2 * at + 1, 2 * at + 2, 2 * at + 2), ("order", 1, 0, 2 * at + 2, 2 * at + 2, 2 * at + 2)]
        tree = tuple(knots) + (("say", True),)
        self.assertTrue(is_plain_tree(1, tree))
        self.assertEqual(shared(tree), tree)
        knots = [("ask", 0, "next", (1,), at + 1) for at in range(3000)]
        tree = tuple(knots) + (("order", 0, 3001, 3001, 3002, 3002), ("say", True), ("say", False))
        self.assertEqual((shared(tree), depth(tree)), (tree, 3000))


class Joined(unittest.TestCase):
    PAIRS = [(wide, one, other) for wide, one in TREES[::3] for other_wide, other in TREES[::7] if wide == other_wide]

    def test_answers_and_asks(self):
        for at, (wide, one, other) in enumerate(self.PAIRS):
            word = WORDS[at % 3]
            told = tree_joined(one, other, word)
            self.assertTrue(is_plain_tree(wide, told), (one, other, word))
            for text in TEXTS[wide][:50]:
                _, places, yes = plain_gone(one, text)
                _, further, other_yes = plain_gone(other, text)
                _, told_places, told_yes = plain_gone(told, text)
                self.assertIs(told_yes, plain_word(word, yes, other_yes), (one, other, word, text))
                is_told = (word == "both" and not yes) or (word == "either" and yes)
                self.assertEqual(told_places, places if is_told else places + further[2:])

    def test_it_is_shared(self):
        for at, (wide, one, other) in enumerate(self.PAIRS):
            for word in (WORDS[at % 3], WORDS[(at + 1) % 3]):
                told = tree_joined(one, other, word)
                self.assertEqual(repr(shared(told)), repr(told))
                self.assertEqual(repr(tree_joined(unshared(one), shared(other), word)), repr(told))

    def test_each_word_asks_the_same_step_by_step(self):
        # Along each way of one the orders and asks are those of one, then those of other.
        for wide, one, other in self.PAIRS[::4]:
            for word in WORDS:
                told = tree_joined(one, other, word)
                for text in TEXTS[wide][:20]:
                    way, _, yes = plain_gone(one, text)
                    rows = [one[own][:-1] if one[own][0] == "ask" else one[own][:3] for own in way[:-1]]
                    if not ((word == "both" and not yes) or (word == "either" and yes)):
                        many = len([row for row in rows if row[0] == "ask"])
                        for own in plain_gone(other, text)[0][:-1]:
                            knot = other[own]
                            moved = tuple(spot if spot < 2 else spot + many for spot in spots(knot))
                            rows.append((knot[0],) + moved + (knot[2:4] if knot[0] == "ask" else ()))
                    told_rows = [told[own][:-1] if told[own][0] == "ask" else told[own][:3]
                                 for own in plain_gone(told, text)[0][:-1]]
                    self.assertEqual(told_rows, rows)

    def test_trees_of_one_knot(self):
        for wide, tree in TREES[::9]:
            own, turned = shared(tree), shared(tree_contrary(tree))
            self.assertEqual([tree_joined(YES, tree, word) for word in WORDS], [own, YES, turned])
            self.assertEqual([tree_joined(NO, tree, word) for word in WORDS], [NO, own, own])
            self.assertEqual(tree_joined(tree, YES, "both"), own)
            self.assertEqual([tree_joined(tree, NO, word) for word in WORDS[1:]], [own, own])
            self.assertEqual(tree_joined(tree, YES, "unlike"), turned)

    def test_a_say_behind_unlike_numbers_of_asks(self):
        one = (("order", 0, 1, 1, 2, 2), ("ask", 0, "next", (1,), 2), ("say", True))
        told = tree_joined(one, SHORT, "both")
        self.assertTrue(is_plain_tree(2, told))
        self.assertEqual(told, (
            ("order", 0, 1, 1, 2, 2), ("ask", 0, "next", (1,), 3), ("ask", 0, "next", (2,), 4), ("ask", 0, "next", (2,), 5),
            ("order", 2, 1, 6, 7, 7), ("order", 3, 1, 6, 7, 7), ("say", True), ("say", False)))


class ContraryAndMirrored(unittest.TestCase):
    def test_contrary(self):
        for wide, tree in TREES:
            told = tree_contrary(tree)
            plain = tuple(("say", not knot[1]) if knot[0] == "say" else knot for knot in tree)
            self.assertEqual(repr(told), repr(plain))
            self.assertEqual(tree_contrary(told), tree)
            for text in TEXTS[wide][:30]:
                self.assertEqual(run(told, text), (run(tree, text)[0], not answer(tree, text)))

    def test_mirrored(self):
        ends = {0: 1, 1: 0}
        for wide, tree in TREES:
            told = tree_mirrored(tree)
            self.assertTrue(is_plain_tree(wide, told))
            self.assertEqual(tree_mirrored(told), tree)
            for knot, new in zip(tree, told):
                self.assertEqual(new[0], knot[0])
                self.assertEqual(spots(new), tuple(ends.get(spot, spot) for spot in spots(knot)))
                if knot[0] == "ask":
                    self.assertEqual(new[2:], ({"next": "last", "last": "next"}[knot[2]],) + knot[3:])
                if knot[0] == "order":
                    self.assertEqual(new[3:], (knot[5], knot[4], knot[3]))
                if knot[0] == "say":
                    self.assertEqual(repr(new), repr(knot))

    def test_of_each_text_turned_round(self):
        for wide, tree in TREES:
            told = tree_mirrored(tree)
            for text in TEXTS[wide][:60]:
                _, places, yes = plain_gone(tree, text)
                back = tuple(len(text) + 1 - place for place in places)
                self.assertEqual(run(told, turned_round(text)), (back[1::-1] + back[2:], yes))

    def test_manners_are_exchanged(self):
        for wide, tree in TREES:
            other = {"backward": "onward", "onward": "backward"}
            self.assertEqual(manners(tree_mirrored(tree)), tuple(sorted(other[own] for own in manners(tree))))


class Things(unittest.TestCase):
    def check(self, thing, wides=(1, 2, 3)):
        for wide in wides:
            self.assertIs(is_tree(wide, thing), is_plain_tree(wide, thing), (wide, thing))

    def test_good_ones(self):
        for wide, tree in TREES:
            self.check(tree)
            self.assertIs(is_tree(wide, tree), True)
            self.check(list(tree))
            self.check(tuple(list(knot) for knot in tree), (3,))
            self.check(tuple(knot[:3] + (list(knot[3]), knot[4]) if knot[0] == "ask" else knot for knot in tree), (3,))

    def test_of_every_kind(self):
        for thing in ODD_THINGS:
            for own in (thing, (thing,), (("say", thing),), (thing, ("say", True)), (("say", True), thing),
                        (("ask", 0, "next", thing, 1), ("say", True)), (("ask", thing, "next", (1,), 1), ("say", True)),
                        (("ask", 0, thing, (1,), 1), ("say", True)), (("ask", 0, "next", (1,), thing), ("say", True)),
                        (("order", 0, 1, thing, 1, 1), ("say", True)), (("order", thing, 1, 1, 1, 1), ("say", True)),
                        (("order", 0, thing, 1, 1, 1), ("say", True)), ((thing, True),)):
                self.check(own)

    def test_one_part_changed(self):
        others = ODD_THINGS[:40] + ("say", "ask", "order", "last", 5, 6, 7)
        for good in (EARLY, SOME_2, IDLE, AHEAD_TREE):
            for thing in [*swapped(good, others), *resized(good)]:
                self.check(thing, (2,))

    def test_thrown_ones_with_one_part_changed(self):
        for wide, tree in TREES[20:90:7]:
            for thing in [*swapped(tree, (0, 1, 2, 3, 4, 5, True, None, "next", (2,), ("say", True))), *resized(tree)]:
                self.check(thing, (wide,))

    def test_each_condition_alone(self):
        good = (("ask", 0, "next", (1,), 1), ("order", 2, 1, 2, 3, 3), ("say", True), ("say", False))
        self.assertIs(is_tree(1, good), True)
        ask, order, yes, no = good
        for bad in (
                (), good[1:], (ask, order, yes), good + (yes,), list(good), (ask, list(order), yes, no),
                (ask, order, ("say", 1), no), (ask, order, ("say", 0), no), (ask, order, ("say", None), no),
                (ask, order, ("say",), no), (ask, order, ("say", True, True), no), (ask, order, ("says", True), no),
                # Knots gone on to that are no greater, or not there.
                (ask[:4] + (0,), order, yes, no), (ask, order[:3] + (2, 3, 1), yes, no),
                (ask, order[:3] + (2, 3, 0), yes, no), (ask, order[:3] + (2, 3, 4), yes, no),
                (ask, order[:3] + (2, 3, -1), yes, no), (ask[:4] + (4,), order, yes, no),
                # Knots to which nothing goes on.
                (ask, order[:3] + (2, 2, 2), yes, no), (ask[:4] + (2,), order, yes, no),
                # Spots that are alike, or not there yet.
                (ask, ("order", 2, 2, 2, 3, 3), yes, no), (ask, ("order", 3, 1, 2, 3, 3), yes, no),
                (ask, ("order", 0, 3, 2, 3, 3), yes, no), (ask, ("order", -1, 1, 2, 3, 3), yes, no),
                (("ask", 2) + ask[2:], order, yes, no), (("ask", -1) + ask[2:], order, yes, no),
                (("ask", 1, "next", (), 1), order, yes, no), (("ask", 1, "next", (2,), 1), order, yes, no),
                (("ask", 1, "next", (1, 1), 1), order, yes, no), (("ask", 1, "next", [1], 1), order, yes, no),
                (("ask", 1, "back", (1,), 1), order, yes, no), (("ask", 1, "next", 1, 1), order, yes, no),
                # True and False for numbers.
                (ask[:4] + (True,), order, yes, no), (("ask", False) + ask[2:], order, yes, no),
                (ask, ("order", 2, True, 2, 3, 3), yes, no), (ask[:3] + ((True,), 1), order, yes, no)):
            self.assertFalse(is_plain_tree(1, bad), bad)
            self.assertIs(is_tree(1, bad), False, bad)

    def test_a_knot_of_another_word(self):
        # All other knots are gone on to from elsewhere, too.
        fork, yes = ("order", 0, 1, 1, 2, 2), ("say", True)
        self.assertIs(is_tree(1, (fork, ("order", 0, 1, 2, 2, 2), yes)), True)
        self.assertIs(is_tree(1, (fork, ("ask", 0, "next", (1,), 2), yes)), True)
        for word in ("orders", "say", "ask", "", None, True, 0, (), ("order",), ["order"]):
            self.assertIs(is_tree(1, (fork, (word, 0, 1, 2, 2, 2), yes)), False)
        for word in ("asks", "say", "order", "", None, False, ("ask",)):
            self.assertIs(is_tree(1, (fork, (word, 0, "next", (1,), 2), yes)), False)
        for word in ("says", "ask", "order", "", None, True, ("say",)):
            self.assertIs(is_tree(1, ((word, True),)), False)

    def test_equally_many_asks_on_all_ways(self):
        fork, ask, yes = ("order", 0, 1, 1, 2, 2), ("ask", 0, "next", (1,), 2), ("say", True)
        self.assertIs(is_tree(1, (fork, ask, yes)), True)
        self.assertIs(is_tree(1, (fork, ask, ("order", 0, 1, 3, 3, 3), yes)), False)
        self.assertIs(is_tree(1, (fork, ask, ("ask", 0, "next", (1,), 3), yes)), False)
        self.assertIs(is_tree(1, (fork, ask, ("ask", 0, "next", (1,), 3), yes)[:2] + (yes,)), True)
        both = (("order", 0, 1, 1, 2, 2), ("ask", 0, "next", (1,), 3), ("ask", 0, "last", (1,), 3),
                ("order", 2, 0, 4, 4, 4), yes)
        self.assertIs(is_tree(1, both), True)
        self.assertIs(is_tree(1, both[:3] + (("order", 3, 0, 4, 4, 4), yes)), False)

    def test_spots_that_are_there_on_one_way_alone(self):
        yes = ("say", True)
        for spot, told in ((0, True), (1, True), (2, True), (3, False)):
            tree = (("ask", 0, "next", (1,), 1), ("ask", spot, "last", (1,), 2), yes)
            self.assertIs(is_tree(1, tree), told)
        tree = (("order", 0, 1, 1, 2, 2), ("ask", 0, "next", (1,), 3), ("ask", 0, "next", (1,), 4),
                ("ask", 2, "next", (1,), 5), ("ask", 3, "next", (1,), 5), yes)
        self.assertIs(is_tree(1, tree), False)
        self.assertIs(is_tree(1, tree[:4] + (("ask", 2, "next", (1,), 5), yes)), True)

    def test_great_ones(self):
        tree = tuple(("ask", at // 2, "next", (1, 3), at + 1) for at in range(4000)) + (("say", True),)
        self.assertIs(is_tree(3, tree), True)
        self.assertIs(is_tree(2, tree), False)
        self.assertIs(is_tree(3, tree[:3999] + (("ask", 4001, "next", (1, 3), 4000),) + tree[4000:]), False)
        self.assertIs(is_tree(3, tree[:3999] + (("ask", 4000, "next", (1, 3), 4000),) + tree[4000:]), True)


class Thrown(unittest.TestCase):
    def test_the_trees_that_are_tried_go_several_ways(self):
        gone = [len({plain_gone(tree, text)[0] for text in texts_of_depth(wide, tree, 1)}) for wide, tree in TREES]
        self.assertGreater(len([many for many in gone if many > 2]), len(TREES) // 3)


if __name__ == "__main__":
    unittest.main()
