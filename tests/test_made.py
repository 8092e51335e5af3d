"""nextsuch/made.py: section 14 of the document."""

import unittest

from nextsuch.chains import chain_mirrored, is_single
from nextsuch.errors import CanNot, TooMuch, Unfit
from nextsuch.judged import are_alike, is_right, machine_of, machine_of_chains
from nextsuch.kinds import kinds
from nextsuch.machines import contrary, joined, mirrored, takes
from nextsuch.made import made, made_backward, made_coming, made_onward, of_chains
from nextsuch.trees import answer, depth, manners, tree_contrary, tree_joined, tree_mirrored
from nextsuch.unfolded import cleaned, unfolded
from tests.plain import WORDS, Dice, blown_up, plain_least, plain_takes
from tests.plain_doings import (
    AHEAD, BEGINS, EDGES, EVEN, LAST, ODD, PAIRS, SMALL_KINDS, SOME, SOONER, TEXTS, TWICE, WITH_200, WITH_201, WITH_203,
    plain_doings, ring)
from tests.plain_looks import long_texts
from tests.plain_trees import (
    AHEAD_TREE, EARLY, FIRST_2, LOOSE, NO, is_plain_tree, plain_gone, plain_ways, thrown_chains, thrown_trees)

MIXED = (((1, 0, 2), (1, 0, 3), (2, 2, 2), (3, 3, 3)), (3,))
LONG = {wide: long_texts(90 + wide, wide, 12) for wide in (1, 2, 3)}
MANNERS = {"asks": made, "onward": made_onward, "backward": made_backward, "coming": made_coming}


def line(many):
    """The machine of one letter that takes the texts of many letters or more: of many + 1 states and own doings."""
    return tuple((min(own + 1, many),) for own in range(many + 1)), (many,)


def answers(tree, text):
    return plain_gone(tree, text)[2]


def tree_of_idle():
    """An onward tree made of a machine some of whose states are left by two letters, some by three."""
    return made_onward((((1, 2, 3), (4, 3, 2), (4, 2, 3), (5, 4, 6), (6, 5, 7), (6, 7, 6), (7, 6, 6), (7, 7, 7)),
                        (0, 1, 3, 4, 6)))


# Machines that trees tell: most are of "asks" alone.
OF_TREES = [own for own in sorted({machine_of(wide, tree) for wide, tree in thrown_trees(141, 260)}) if len(own[0]) < 9]


class Examples(unittest.TestCase):
    def test_right(self):
        self.assertEqual(
            ([is_right(own, made(own)) for own in (AHEAD, BEGINS, SOME)],
             [is_right(own, made_onward(own)) for own in (AHEAD, BEGINS)]),
            ([True, True, True], [True, True]))

    def test_manners(self):
        self.assertEqual(
            (manners(made_onward(BEGINS)), is_right(AHEAD, made_backward(AHEAD)), depth(made_coming(SOME)) < 3,
             is_right(SOME, made_coming(SOME))),
            (("onward",), True, True, True))

    def test_mixed(self):
        self.assertEqual(
            (kinds(MIXED), is_right(MIXED, made(MIXED)), answer(made(MIXED), (2, 1, 3, 2, 1)),
             answer(made(MIXED), (1, 2, 3, 3))),
            (("asks",), True, True, False))

    def test_chains(self):
        alone = of_chains(2, ((((1,), (1,)), (2,)),))
        self.assertEqual(
            ([answer(alone, own) for own in ((2,), (1, 1, 2, 1), (1, 1), (2, 1, 2))],
             are_alike(2, of_chains(2, ()), (("say", False),))),
            ([True, True, False, False], True))

    def test_errors(self):
        for function, given, error in (
                (made, (EVEN,), CanNot), (made_backward, (BEGINS,), CanNot),
                (of_chains, (2, ((((1, 2), (1, 2)), (2,)),)), Unfit)):
            with self.assertRaises(error) as caught:
                function(*given)
            self.assertEqual(vars(caught.exception), {})


class Made(unittest.TestCase):
    def check(self, machine, tree):
        """Whether tree is one, and right for machine, judged here."""
        wide = len(machine[0][0])
        self.assertTrue(is_plain_tree(wide, tree), tree)
        for text in TEXTS[wide] + LONG[wide]:
            self.assertIs(answers(tree, text), plain_takes(machine, text), (machine, tree, text))
        self.assertIs(is_right(machine, tree), True, (machine, tree))

    def test_exactly_for_those_of_the_kind(self):
        tried = {kind: 0 for kind in MANNERS}
        for machine, own, told in SMALL_KINDS:
            for kind, function in MANNERS.items():
                if kind == "asks" and len(plain_doings(own)) > 24:
                    self.assertRaises(TooMuch, made, machine)
                elif kind in told:
                    self.check(machine, function(machine))
                    tried[kind] += 1
                else:
                    self.assertRaises(CanNot, function, machine)
        self.assertGreater(min(tried.values()), 20, tried)

    def test_machines_of_trees(self):
        tried = 0
        for machine in OF_TREES:
            if len(plain_doings(machine)) <= 24:
                self.check(machine, made(machine))
                tried += 1
            else:
                self.assertRaises(TooMuch, made, machine)
        self.assertGreater(tried, 60)

    def test_manners_spots_and_sides(self):
        for machine, own, told in SMALL_KINDS:
            if "onward" in told:
                self.assertIn("onward", manners(made_onward(machine)))
            if "backward" in told:
                self.assertIn("backward", manners(made_backward(machine)))
            if "coming" in told:
                tree = made_coming(machine)
                self.assertLessEqual(depth(tree), len(machine[0][0]))
                self.assertEqual({knot[1:3] for knot in tree if knot[0] == "ask"} - {(0, "next")}, set())

    def test_alike_machines(self):
        dice = Dice(142)
        for machine, own, told in SMALL_KINDS[::3]:
            if len(own[0]) < 7:
                fat = blown_up(dice, own, 8)
                for kind in told:
                    if kind in MANNERS and (kind != "asks" or len(plain_doings(own)) <= 24):
                        self.check(fat, MANNERS[kind](fat))

    def test_at_the_edges(self):
        for wide in (1, 2, 3):
            for ends in ((), (0,)):
                for function in MANNERS.values():
                    self.assertEqual(function((((0,) * wide,), ends)), (("say", ends == (0,)),))
        for machine in EDGES + [line(many) for many in (1, 2, 5, 7)]:
            own = plain_least(machine)
            if own == machine and len(own[0][0]) == 1 and own[0][-1][0] == len(own[0]) - 1:
                for function in (made, made_onward, made_backward):
                    self.check(machine, function(machine))

    def test_many_states(self):
        for many in (23, 60, 199):
            for function in (made_onward, made_backward):
                tree = function(line(many))
                self.assertTrue(is_plain_tree(1, tree))
                self.assertEqual([answers(tree, (1,) * size) for size in (many - 1, many, many + 1, 0)],
                                 [False, True, True, False])
        self.assertIs(is_right(line(60), made_onward(line(60))), True)

    def test_the_last_letters(self):
        three = (((0, 1), (2, 3), (4, 5), (6, 7), (0, 1), (2, 3), (4, 5), (6, 7)), (4, 5, 6, 7))
        self.check(three, made(three))
        self.check(three, made_backward(three))
        self.assertRaises(CanNot, made_onward, three)
        self.check(mirrored(three), made_onward(mirrored(three)))
        self.assertRaises(CanNot, made_backward, mirrored(three))

    def test_hard_ones(self):
        # Of 24 and of fewer own DOINGS, with great trees for them.
        for machine in ((((5, 0, 6), (4, 1, 1), (5, 2, 4), (5, 4, 4), (5, 4, 0), (7, 3, 2), (5, 6, 6), (7, 4, 6)), (4, 5, 6)),
                        (((1, 1, 7), (3, 1, 7), (0, 3, 7), (3, 5, 7), (6, 7, 1), (5, 5, 7), (3, 4, 3), (5, 2, 7)), (1, 5, 7)),
                        (((4, 3, 7), (1, 1, 2), (6, 1, 2), (5, 6, 4), (5, 6, 2), (1, 6, 2), (1, 6, 2), (4, 3, 5)),
                         (1, 3, 4, 5)),
                        (((1, 2, 3), (2, 1, 4), (2, 4, 1), (4, 3, 1), (2, 4, 5), (2, 5, 5)), (2, 5))):
            tree = made(machine)
            self.check(machine, tree)
            self.assertGreater(len(tree), 90)

    def test_hard_onward_ones(self):
        # From STATE to STATE another number of letters leads on, so idle ASKS are asked.
        for machine in ((((1, 2, 3), (4, 3, 2), (4, 2, 3), (5, 4, 6), (6, 5, 7), (6, 7, 6), (7, 6, 6), (7, 7, 7)),
                         (0, 1, 3, 4, 6)),
                        (((1, 2, 3), (2, 4, 5), (6, 7, 5), (1, 1, 4), (7, 6, 2), (5, 5, 5), (5, 6, 6), (7, 6, 5)),
                         (0, 1, 3, 4, 6, 7)),
                        (((1, 1, 0), (1, 2, 3), (3, 4, 2), (3, 3, 3), (4, 4, 3)), (0, 2))):
            if "onward" in kinds(machine):
                for own, function in ((machine, made_onward), (mirrored(machine), made_backward)):
                    tree = function(own)
                    self.check(own, tree)
                    self.assertLess(len(tree), 100)
        self.assertIn(("ask", 1, "next", (1,)), [knot[:4] for knot in tree_of_idle()])

    def test_what_was_gone_over_matters(self):
        # Ahead of the first 3 a text that begins with 1 and ends with 2; 1, 2 and 1 in this order; and such.
        full = (1, 2, 3)
        for sets, marks in ((((), (1, 2), (), full), (1, 2, 3)), ((((2,), (1,), (), full), (1, 2, 3))),
                            (((1, 2), (1,), full), (2, 3)), (((2,), (1, 2), full), (1, 3)),
                            ((full, (), (1, 2), ()), (3, 1, 2)), ((full, (), (1,), (1, 2)), (3, 1, 2)),
                            (((2,), (), (1, 2), (1,), full), (1, 2, 2, 3))):
            chain = sets, marks
            self.assertIs(is_single(chain), True)
            tree = of_chains(3, (chain,))
            for text in TEXTS[3] + LONG[3] + [marks[:own] + (1, 2) + marks[own:] for own in range(len(marks) + 1)]:
                self.assertIs(answers(tree, text), plain_ways(chain, text) != [], (chain, text))
            self.assertIs(are_alike(3, of_chains(3, (chain_mirrored(chain),)), tree_mirrored(tree)), True)

    def test_the_same_tree_again(self):
        for machine in OF_TREES[::5]:
            if len(plain_doings(machine)) <= 24:
                self.assertEqual(repr(made(machine)), repr(made(machine)))


class Errors(unittest.TestCase):
    def test_24_and_25(self):
        self.check_just(line(23), 24)
        self.assertIs(is_right(line(23), made(line(23))), True)
        self.check_just(line(24), 25)
        self.assertRaises(TooMuch, made, line(24))
        self.assertIs(is_right(line(24), made_onward(line(24))), True)

    def check_just(self, machine, many):
        self.assertEqual(len(plain_doings(plain_least(machine))), many)

    def test_too_much_ahead_of_can_not(self):
        self.check_just(ring(25), 25)
        self.assertRaises(TooMuch, made, ring(25))
        self.assertRaises(CanNot, made, ring(24))
        for function in (made_onward, made_backward, made_coming):
            self.assertRaises(CanNot, function, ring(25))
            self.assertRaises(CanNot, function, ring(200))
            self.assertRaises(CanNot, function, WITH_200)
            for machine in (ring(201), WITH_201, WITH_203, line(200)):
                with self.assertRaises(TooMuch) as caught:
                    function(machine)
                self.assertEqual(vars(caught.exception), {})
        for machine in (WITH_200, WITH_201, WITH_203):
            self.assertRaises(TooMuch, made, machine)

    def test_none_of_the_kinds(self):
        for machine in (PAIRS, ODD, EVEN, ring(2), ring(3)):
            for function in MANNERS.values():
                self.assertRaises(CanNot, function, machine)

    def test_just_some_of_the_kinds(self):
        for machine, told in ((SOONER, {made}), (BEGINS, {made, made_onward}), (LAST, {made, made_backward}),
                              (AHEAD, {made, made_onward, made_backward}), (SOME, {*MANNERS.values()}),
                              (TWICE, set())):
            for function in MANNERS.values():
                if function not in told:
                    self.assertRaises(CanNot, function, machine)
                else:
                    self.assertIs(is_right(machine, function(machine)), True)


class OfChains(unittest.TestCase):
    SINGLE = [(wide, own) for wide, own in thrown_chains(143, 400) if is_single(own)]

    def test_all_texts_to_a_length(self):
        dice, tried = Dice(144), 0
        for at, (wide, chain) in enumerate(self.SINGLE):
            others = [own for own_wide, own in self.SINGLE[at % 11::11] if own_wide == wide]
            some = (chain,) + tuple(others[:dice.below(3)])
            try:
                tree = of_chains(wide, some)
            except TooMuch:
                continue
            tried += 1
            self.assertTrue(is_plain_tree(wide, tree))
            for text in TEXTS[wide][:130]:
                self.assertIs(answers(tree, text), any(plain_ways(own, text) for own in some), (some, text))
        self.assertGreater(tried, 60)

    def test_what_is_not_single(self):
        many = tuple(((1,) * 0, (1, 2), (2,), (1,), (1, 2))[at % 5] for at in range(9)), (1, 2, 2, 1, 1, 2, 1, 2)
        for good in ((), (FIRST_2,), (FIRST_2, (((1,), (1,)), (2,)))):
            for chains in (good + (LOOSE,), (LOOSE,) + good):
                with self.assertRaises(Unfit) as caught:
                    of_chains(3, chains)
                self.assertEqual(vars(caught.exception), {})
        self.assertRaises(Unfit, of_chains, 2, (many, LOOSE))

    def test_unfit_ahead_of_too_much(self):
        # Eight marks, each as early as can be: this has more than 24 own DOINGS.
        marks = (1, 2, 3, 1, 2, 3, 1, 2)
        early = tuple(tuple(own for own in (1, 2, 3) if own != mark) for mark in marks) + ((1, 2, 3),), marks
        self.assertRaises(TooMuch, of_chains, 3, (early,))
        self.assertRaises(TooMuch, of_chains, 3, (early, (((1,),), ()), early))
        # FIRST_2 is fit by all that the first one is, too: together they have few.
        self.assertEqual(of_chains(3, (early, FIRST_2)), of_chains(3, (FIRST_2,)))
        self.assertRaises(Unfit, of_chains, 3, (early, LOOSE))
        self.assertRaises(Unfit, of_chains, 3, (LOOSE, early))

    def test_twelve_of_eight_marks(self):
        # Their machine would be very great; most of the parts of each are far from one another.
        dice, chains = Dice(145), []
        while len(chains) < 12:
            marks = tuple(1 + dice.below(3) for _ in range(8))
            sets = [tuple(own for own in (1, 2, 3) if own not in (mark, dice.below(5))) for mark in marks]
            chain = tuple(sets) + ((1, 2, 3),), marks
            chains += [chain] if is_single(chain) else []
        self.assertRaises(TooMuch, of_chains, 3, tuple(chains))
        self.assertRaises(TooMuch, of_chains, 3, tuple(chain_mirrored(chain) for chain in chains))
        self.assertRaises(Unfit, of_chains, 3, tuple(chains[1:]) + (LOOSE,))
        # As often as it may be the same one.
        short = ((2, 3), (1, 3), (1, 2, 3)), (1, 2)
        self.assertEqual(of_chains(3, (short,) * 12), of_chains(3, (short,)))

    def test_too_much_just_of_those_with_more_than_24(self):
        few = many = 0
        for at, (wide, chain) in enumerate(self.SINGLE[::2]):
            some = [chain] + [own for own_wide, own in self.SINGLE[at % 19::19] if own_wide == wide][:at % 5]
            told = plain_doings(machine_of_chains(wide, tuple(some)))
            if len(told) > 24:
                self.assertRaises(TooMuch, of_chains, wide, some)
                many += 1
            else:
                self.assertIs(is_right(machine_of_chains(wide, some), of_chains(wide, some)), True)
                few += 1
        self.assertGreater(min(few, many), 10)

    def test_no_chains_and_no_marks(self):
        for wide in (1, 2, 3):
            self.assertEqual(of_chains(wide, ()), NO)
            self.assertEqual(of_chains(wide, ((((),), ()),)), made((((1,) * wide, (1,) * wide), (0,))))
        self.assertEqual(of_chains(2, ((((1, 2),), ()),)), (("say", True),))
        self.assertEqual(of_chains(2, [[[[1, 2]], []]]), (("say", True),))


class Across(unittest.TestCase):
    def some(self):
        for machine in OF_TREES[::4]:
            if len(plain_doings(machine)) <= 24:
                yield len(machine[0][0]), machine, made(machine)

    def test_turned_joined_and_mirrored(self):
        firsts = {}
        for wide, machine, tree in self.some():
            self.assertIs(is_right(contrary(machine), tree_contrary(tree)), True)
            self.assertIs(is_right(mirrored(machine), tree_mirrored(tree)), True)
            other_machine, other = firsts.setdefault(wide, (machine, tree))
            for word in WORDS:
                self.assertIs(is_right(joined(machine, other_machine, word), tree_joined(tree, other, word)), True)

    def test_unfolded_and_made_again(self):
        tried = 0
        for wide, machine, tree in self.some():
            try:
                rows = unfolded(wide, tree)
            except TooMuch:
                continue
            tried += 1
            again = of_chains(wide, tuple(chain for chain, yes, _ in rows if yes))
            self.assertIs(is_right(machine, again), True)
            self.assertEqual(again, tree)
            self.assertIs(are_alike(wide, tree, cleaned(wide, tree)), True)
        self.assertGreater(tried, 20)

    def test_a_tree_is_made_again(self):
        for tree in (EARLY, AHEAD_TREE):
            machine = machine_of(2, tree)
            self.assertIs(are_alike(2, made(machine), tree), True)
            for text in LONG[2]:
                self.assertIs(answers(made(machine), text), takes(machine, text))


if __name__ == "__main__":
    unittest.main()
