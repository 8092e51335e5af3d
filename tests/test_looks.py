"""nextsuch/looks.py: section 16 of the document, and what section 3 says of look trees."""

import unittest

from nextsuch.doings import span
from nextsuch.errors import CanNot, TooMuch
from nextsuch.kinds import bar
from nextsuch.looks import (
    exchanged, is_look_tree, look, looks_against, looks_most, looks_right, looks_wrong, made_looks)
from tests.plain import ODD_THINGS, Dice, blown_up, plain_takes, resized, swapped
from tests.plain_doings import (
    BEGINS, EDGES, EVEN, LAST, ODD, PAIRS, SMALL_KINDS, SOME, SOONER, WITH_200, WITH_201, WITH_203, ring)
from tests.plain_looks import (
    LOOK_BAR, LOOK_EVEN, LOOK_FIRST, LOOK_LAST, LOOK_TEXTS, is_plain_look_tree, long_texts, look_leads, look_ways,
    plain_look, thrown_look_tree, thrown_look_trees)

TREES = thrown_look_trees(161, 160)
LONG = {wide: long_texts(160 + wide, wide, 10) for wide in (1, 2, 3)}
SAY = (("say", True),)


class Examples(unittest.TestCase):
    def test_first(self):
        tree = LOOK_FIRST
        self.assertEqual(
            (is_look_tree(2, tree), is_look_tree(3, tree), look(tree, ()), look(tree, (1, 2)), look(tree, (2,)),
             looks_most(tree), looks_right(BEGINS, tree)),
            (True, False, False, True, False, 1, True))

    def test_even(self):
        self.assertEqual(
            (look(LOOK_EVEN, (2, 2)), looks_most(LOOK_EVEN), looks_wrong(BEGINS, LOOK_EVEN),
             looks_right(BEGINS, made_looks(BEGINS))),
            (True, 0, (), True))

    def test_last(self):
        self.assertEqual(
            (look(LOOK_LAST, (2, 1)), look(LOOK_LAST, (2,)), looks_wrong(BEGINS, LOOK_LAST)), (True, False, (1,)))

    def test_exchanged(self):
        self.assertEqual(
            (exchanged(LOOK_BAR, 3), exchanged(LOOK_BAR, 2), [len(own) for own in exchanged(LOOK_BAR, 5)]),
            ([(1, 1, 1, 2, 1, 1)], [], [10, 10, 10]))
        one, other = looks_against(LOOK_BAR, LOOK_LAST)
        self.assertEqual(
            (look(LOOK_LAST, one) == look(LOOK_LAST, other), len(one) == len(other), one == (1, 1) * (len(one) // 2)),
            (True, True, True))

    def test_error(self):
        with self.assertRaises(CanNot) as caught:
            made_looks((((1, 0), (0, 1)), (0,)))
        self.assertEqual(vars(caught.exception), {})


class Look(unittest.TestCase):
    def test_all_texts_to_a_length(self):
        for wide, tree in TREES:
            self.assertTrue(is_plain_look_tree(wide, tree))
            for text in LOOK_TEXTS[wide] + LONG[wide]:
                self.assertIs(look(tree, text), plain_look(tree, text), (tree, text))

    def test_numbers_from_both_ends(self):
        # At most that many letters: the first one; else as many behind it as the letter says.
        for number in (0, 1, 2, 60):
            for side in ("next", "last"):
                for size in (number, number + 1, number + 5, max(0, number - 1)):
                    for letter in (1, 2, 3):
                        for at in range(4):
                            tree = (("look", side, number, (1, 2, 3, 4)),) + tuple(
                                ("say", own == at) for own in range(4))
                            text = [1 + own % 3 for own in range(size)]
                            if size > number:
                                text[number if side == "next" else size - 1 - number] = letter
                            self.assertIs(look(tree, tuple(text)), at == (letter if size > number else 0))

    def test_lengths(self):
        for many in (1, 2, 5, 60):
            for at in range(many):
                leads = tuple(1 if own == at else 2 for own in range(many))
                tree = (("length", leads), ("say", True)) + ((("say", False),) if many > 1 else ())
                self.assertEqual([look(tree, (1,) * size) for size in range(130)],
                                 [size % many == at for size in range(130)])

    def test_one_knot(self):
        for text in LOOK_TEXTS[3][:40]:
            self.assertEqual((look(SAY, text), look((("say", False),), text)), (True, False))

    def test_looks_most(self):
        for wide, tree in TREES:
            plain = max(len([own for own in way if tree[own][0] == "look"]) for way in look_ways(tree))
            self.assertEqual(repr(looks_most(tree)), repr(plain))
        self.assertEqual((looks_most(SAY), looks_most((("length", (1,)), ("say", True)))), (0, 0))


class Things(unittest.TestCase):
    def check(self, thing):
        for wide in (1, 2, 3):
            self.assertIs(is_look_tree(wide, thing), is_plain_look_tree(wide, thing), (wide, thing))

    def test_good_ones(self):
        for wide, tree in TREES:
            self.assertIs(is_look_tree(wide, tree), True)
            self.check(tree)
            self.check(list(tree))
            self.check(tuple(list(knot) for knot in tree))
            self.check(tuple(knot[:-1] + (list(knot[-1]),) if knot[0] != "say" else knot for knot in tree))

    def test_of_every_kind(self):
        for thing in ODD_THINGS:
            for own in (thing, (thing,), (thing, ("say", True)), (("say", thing),), (("length", thing), ("say", True)),
                        (("length", (thing,)), ("say", True)), (("look", thing, 0, (1, 1)), ("say", True)),
                        (("look", "next", thing, (1, 1)), ("say", True)), (("look", "next", 0, thing), ("say", True)),
                        (("look", "last", 0, (1, thing)), ("say", True)), ("say", thing), (("say", True), thing)):
                self.check(own)

    def test_one_part_changed(self):
        good = (("length", (1, 2)), ("look", "next", 7, (2, 3, 4)), ("look", "last", 0, (4, 3, 3)), ("say", True),
                ("say", False))
        self.assertIs(is_look_tree(2, good), True)
        for tree in (good, LOOK_FIRST, SAY, (("look", "last", 3, (1, 1)), ("say", False))):
            for thing in [*swapped(tree, ODD_THINGS[:44] + ("last", "say", "look", "length")), *resized(tree)]:
                self.check(thing)

    def test_each_condition_alone(self):
        for thing in (
                (), (("length", ()),), (("say", 1),), (("say", True), ("say", False)), (("say", True, True),), (("say",),), (("tell", True),),
                (("length", ()), ("say", True)), (("length", (0,)), ("say", True)), (("length", (2,)), ("say", True)),
                (("length", (1, 1), 2), ("say", True)), (("look", "next", -1, (1, 1)), ("say", True)),
                (("look", "back", 0, (1, 1)), ("say", True)), (("look", "next", True, (1, 1)), ("say", True)),
                (("look", "next", 0, (1,)), ("say", True)), (("look", "next", 0, (1, True)), ("say", True)),
                (("look", "next", 0, (1, 1)), ("length", (1,)), ("say", True)),
                (("length", (2,)), ("length", (2,)), ("say", True)), (("length", (1,)), ("length", (0,)))):
            self.check(thing)
            self.assertIs(is_look_tree(1, thing), False, thing)

    def test_great_ones(self):
        many = 3000
        tree = tuple(("length", (own + 1,)) for own in range(many)) + (("say", True),)
        self.assertIs(is_look_tree(1, tree), True)
        self.assertIs(is_look_tree(1, tree + (("say", True),)), False)
        self.assertIs(is_look_tree(3, (("look", "next", 10 ** 40, (1, 1, 1, 1)), ("say", False))), True)


class Made(unittest.TestCase):
    def check(self, machine, tree):
        wide = len(machine[0][0])
        self.assertTrue(is_plain_look_tree(wide, tree), tree)
        for text in LOOK_TEXTS[wide][:700] + LONG[wide]:
            self.assertIs(plain_look(tree, text), plain_takes(machine, text), (machine, tree, text))

    def test_exactly_for_those_of_the_kind(self):
        tried = 0
        for machine, own, told in SMALL_KINDS:
            if "looks" in told:
                self.check(machine, made_looks(machine))
                tried += 1
            else:
                self.assertRaises(CanNot, made_looks, machine)
        self.assertGreater(tried, 40)

    def test_it_is_right_where_it_can_be_judged(self):
        tried = 0
        for machine, own, told in SMALL_KINDS:
            if "looks" in told:
                tree = made_looks(machine)
                if len(tree) < 40 and len(look_ways(tree)) <= 5000:
                    self.assertIs(looks_right(machine, tree), True)
                    self.assertRaises(CanNot, looks_wrong, machine, tree)
                    tried += 1
        self.assertGreater(tried, 40)

    def test_known_ones(self):
        third = (((0, 1), (2, 3), (4, 5), (6, 7), (0, 1), (2, 3), (4, 5), (6, 7)), (4, 5, 6, 7))
        for machine in (BEGINS, EVEN, LAST, third, ring(2), ring(7), ring(59), ring(60)):
            self.check(machine, made_looks(machine))
        # Of even length, with a 2 first or last.
        mixed = (((1, 2), (3, 4), (5, 5), (1, 1), (1, 1), (2, 2)), (4, 5))
        self.check(mixed, made_looks(mixed))
        dice = Dice(162)
        for machine in (BEGINS, EVEN, LAST, ring(3)):
            self.check(machine, made_looks(blown_up(dice, machine, 8)))

    def test_edges(self):
        for wide in (1, 2, 3):
            for ends in ((), (0,)):
                self.assertEqual(made_looks((((0,) * wide,), ends)), (("say", ends == (0,)),))
        for machine in EDGES:
            self.check(machine, made_looks(machine))

    def test_errors_in_order(self):
        for machine in (ODD, PAIRS, SOME, SOONER, WITH_200):
            self.assertRaises(CanNot, made_looks, machine)
        for machine in (WITH_201, WITH_203, ring(61), ring(201)):
            with self.assertRaises(TooMuch) as caught:
                made_looks(machine)
            self.assertEqual(vars(caught.exception), {})


class Wrong(unittest.TestCase):
    def plain(self, machine, tree, texts):
        return next((text for text in texts if plain_look(tree, text) != plain_takes(machine, text)), None)

    def test_the_least_text_by_a_plain_search(self):
        tried = right = 0
        for at, (machine, own, told) in enumerate(SMALL_KINDS):
            wide = len(own[0][0])
            for tree_wide, tree in TREES[at % 11::11]:
                if wide == tree_wide:
                    text = self.plain(own, tree, LOOK_TEXTS[wide])
                    if text is None:
                        right += looks_right(machine, tree)
                        continue
                    self.assertEqual(repr(looks_wrong(machine, tree)), repr(text), (machine, tree))
                    self.assertIs(looks_right(machine, tree), False)
                    tried += 1
        self.assertGreater(tried, 800)
        self.assertGreater(right, 0)

    def test_a_right_one_with_one_knot_changed(self):
        dice, tried, longest = Dice(163), 0, 0
        for machine, own, told in SMALL_KINDS:
            if "looks" not in told or len(own[0]) < 3:
                continue
            tree = made_looks(machine)
            for _ in range(40):
                at = dice.below(len(tree))
                if tree[at][0] == "say" or len(tree) > 30 or len(look_ways(tree)) > 1000:
                    continue
                leads = look_leads(tree[at])
                place = dice.below(len(leads))
                other = at + 1 + dice.below(len(tree) - at - 1)
                bent = tree[:at] + (tree[at][:-1] + (leads[:place] + (other,) + leads[place + 1:],),) + tree[at + 1:]
                if is_plain_look_tree(len(own[0][0]), bent):
                    text = self.plain(own, bent, LOOK_TEXTS[len(own[0][0])])
                    if text is not None:
                        self.assertEqual(looks_wrong(machine, bent), text)
                        longest = max(longest, len(text))
                        tried += 1
        self.assertGreater(tried, 60)
        self.assertGreater(longest, 2)

    def test_the_least_of_several_ways(self):
        # Two ways are wrong on texts of two letters; on shorter ones none is.
        tree = (("look", "last", 0, (1, 2, 3)), ("say", False), ("look", "next", 1, (1, 4, 1)), ("look", "next", 1, (1, 1, 4)),
                ("say", True))
        self.assertEqual(looks_wrong((((0, 0),), ()), tree), (1, 1))
        self.assertEqual(looks_wrong((((1, 2), (3, 3), (3, 3), (3, 3)), ()), tree), (1, 1))
        only = (("look", "next", 1, (1, 1, 2)), ("say", False), ("look", "last", 0, (1, 3, 1)), ("look", "last", 1, (1, 1, 4)),
                ("say", True))
        self.assertEqual(looks_wrong((((0, 0),), ()), only), (1, 2, 1))

    def test_long_ones(self):
        # Looked at is a place far from both ends: so many letters are needed.
        for number in (5, 20, 60):
            for side in ("next", "last"):
                tree = (("look", side, number, (1, 1, 2)), ("say", False), ("say", True))
                text = (1,) * number + (2,) if side == "next" else (2,) + (1,) * number
                self.assertEqual(looks_wrong((((0, 0),), ()), tree), text)
                self.assertEqual(looks_wrong((((0, 0),), (0,)), tree), ())
        tree = (("look", "next", 60, (1, 1, 2)), ("say", False), ("look", "last", 60, (1, 1, 3)), ("length", (1,) * 59 + (4,)),
                ("say", True))
        self.assertEqual(looks_wrong((((0, 0),), ()), tree), (1,) * 58 + (2, 1, 2) + (1,) * 58)

    def test_lengths_and_the_span(self):
        # Right but for the texts of 59 letters and 60 more.
        tree = (("length", (1,) * 59 + (2,)), ("say", True), ("say", False))
        self.assertEqual(looks_wrong((((0,),), (0,)), tree), (1,) * 59)
        self.assertIs(looks_right(ring(60), (("length", (1,) + (2,) * 59), ("say", True), ("say", False))), True)
        self.assertEqual(looks_wrong(ring(30), (("length", (1,) + (2,) * 59), ("say", True), ("say", False))), (1,) * 30)
        self.assertEqual(looks_wrong(ring(4), (("length", (1, 2, 2, 2, 2, 2)), ("say", True), ("say", False))), (1,) * 4)
        self.assertIs(looks_right(EVEN, LOOK_EVEN), True)
        self.assertEqual(looks_wrong(ODD, LOOK_EVEN), ())

    def test_a_place_looked_at_twice(self):
        # The one letter is first and last, and read as two unlike ones by no way.
        tree = (("look", "next", 0, (1, 1, 2)), ("say", False), ("look", "last", 0, (1, 3, 1)), ("say", True))
        self.assertEqual(looks_wrong((((0, 0),), ()), tree), (2, 1))
        self.assertEqual(looks_wrong((((1, 1), (2, 2), (2, 2)), ()), tree), (2, 1))
        both = (("look", "next", 0, (1, 2, 1)), ("say", False), ("look", "next", 0, (3, 1, 3)), ("say", True))
        self.assertIs(looks_right((((0, 0),), ()), both), True)

    def test_machines_of_whatever_kind(self):
        for machine in (ODD, PAIRS, SOME, SOONER, WITH_200):
            wide = len(machine[0][0])
            tree = (("look", "next", 0, (1,) * wide + (2,)), ("say", True), ("say", False))
            self.assertEqual(looks_wrong(machine, tree), self.plain(machine, tree, LOOK_TEXTS[wide]))

    def test_too_many_ways(self):
        def way(many):
            return tuple(("look", "next", 0, (own + 1,) * 4) for own in range(many)) + (("say", True),)

        # 4 to the power of many ways; each place in trees is told apart.
        everything = (((0, 0, 0),), (0,))
        self.assertEqual(len(look_ways(way(6))), 4096)
        self.assertIs(looks_right(everything, way(6)), True)
        self.assertRaises(TooMuch, looks_right, everything, way(7))
        # Just 5,000 and 5,001.
        self.assertRaises(CanNot, looks_wrong, everything, self.of_so_many(5000))
        for function in (looks_right, looks_wrong):
            with self.assertRaises(TooMuch) as caught:
                function(everything, self.of_so_many(5001))
            self.assertEqual(vars(caught.exception), {})

    def of_so_many(self, many):
        """The look tree of three letters that has many ways, all to one "say": digits to the base four."""
        digits = []
        while many:
            digits.append(many % 4)
            many //= 4
        # Knot number k from the end has 4 to the power of k ways; the first ones add up what is wanted.
        powers = len(digits) - 1
        adding = [power for power, digit in enumerate(digits) for _ in range(digit)]
        first = len(adding)
        knots = []
        for at, power in enumerate(adding):
            target = first + powers - power
            knots.append(("length", (target,) + ((at + 1,) if at + 1 < first else ())))
        knots += [("look", "next", 0, (first + own + 1,) * 4) for own in range(powers)]
        tree = tuple(knots) + (("say", True),)
        self.assertTrue(is_plain_look_tree(3, tree))
        self.assertEqual(len(look_ways(tree)), sum(digit * 4 ** power for power, digit in enumerate(digits)))
        return tree

    def test_no_common_multiple_to_60(self):
        def two(one, other):
            return (("length", (1,) * one), ("length", (2,) * other), ("say", True))

        everything = (((0,),), (0,))
        for one, other in ((4, 15), (60, 30), (7, 8), (59, 1)):
            self.assertIs(looks_right(everything, two(one, other)), True)
        for one, other in ((7, 9), (16, 5), (61, 1), (8, 15)):
            for function in (looks_right, looks_wrong):
                self.assertRaises(TooMuch, function, everything, two(one, other))
        # The span of the machine counts, too; here it is 7, and 60.
        self.assertRaises(TooMuch, looks_right, ring(7), two(3, 5))
        self.assertIs(looks_right(ring(7), two(2, 4)), False)
        self.assertRaises(TooMuch, looks_right, ring(60), two(7, 1))
        self.assertEqual(span(ring(7)), 7)

    def test_too_much_as_span(self):
        for machine in (WITH_201, WITH_203, ring(61), ring(201)):
            for function in (looks_right, looks_wrong):
                self.assertRaises(TooMuch, function, machine, SAY)

    def test_trees_that_say_one_thing(self):
        dice = Dice(164)
        for wide in (1, 2, 3):
            everything = (((0,) * wide,), (0,))
            for _ in range(10):
                tree = thrown_look_tree(dice, wide, 3, 60, (1, 2, 3))
                tree = tuple(knot if knot[0] != "say" else ("say", True) for knot in tree)
                self.assertIs(looks_right(everything, tree), True)


class Exchanged(unittest.TestCase):
    BARS = [LOOK_BAR, ("looks", (2,), (1, 2), (2, 2), (1, 1)), ("looks", (), (1,), (2,), ())]
    BARS += [bar(machine, "looks") for machine, own, told in SMALL_KINDS[::9] if "looks" not in told]

    def test_blocks(self):
        for own in self.BARS:
            _, p, u, v, q = own
            for number in range(2, 9):
                plain = []
                for at in range(1, number - 1):
                    blocks = [u] * number
                    blocks[at] = v
                    plain.append(p + sum(blocks, ()) + q)
                self.assertEqual(repr(exchanged(own, number)), repr(plain))
                self.assertEqual(repr(exchanged([own[0]] + [list(text) for text in own[1:]], number)), repr(plain))

    def test_just_one_is_taken(self):
        for machine, own, told in SMALL_KINDS[::9]:
            if "looks" not in told:
                thing = bar(machine, "looks")
                for number in (3, 4, 7):
                    one = thing[1] + thing[2] * number + thing[4]
                    for other in exchanged(thing, number):
                        self.assertNotEqual(plain_takes(own, one), plain_takes(own, other))

    def test_against(self):
        for own in self.BARS:
            _, p, u, v, q = own
            wide = max(letter for text in own[1:] for letter in text)
            for tree_wide, tree in TREES:
                if tree_wide >= wide:
                    self.check_against(own, tree)

    def check_against(self, own, tree):
        _, p, u, v, q = own
        pair = looks_against(own, tree)
        self.assertIs(type(pair), tuple)
        one, other = pair
        number = (len(one) - len(p) - len(q)) // len(u)
        self.assertEqual(one, p + u * number + q)
        self.assertIn(other, exchanged(own, number))
        self.assertIs(plain_look(tree, one), plain_look(tree, other), (own, tree))

    def test_against_great_ones(self):
        for machine in (BEGINS, LAST, EVEN, (((1, 2), (3, 4), (5, 5), (1, 1), (1, 1), (2, 2)), (4, 5))):
            for own in self.BARS[:3]:
                self.check_against(own, made_looks(machine))
        for many in (10, 40):
            tree = tuple(("look", ("next", "last")[own % 2], own, (many, own + 1, many)) for own in range(many)) + (
                ("say", True),)
            for own in self.BARS[:3]:
                self.check_against(own, tree)

    def test_a_tree_that_looks_at_nearly_all(self):
        # All looks at the blocks in the midst: one is left.
        for many in (1, 2, 5, 12):
            tree = tuple(("look", "next", 1 + own, (many + 1, own + 1 if own + 1 < many else many, many + 1))
                         for own in range(many)) + (("say", True), ("say", False))
            self.check_against(self.BARS[2], tree)


if __name__ == "__main__":
    unittest.main()
