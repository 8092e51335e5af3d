"""nextsuch/judged.py: section 13 of the document."""

import unittest

from nextsuch.errors import CanNot
from nextsuch.judged import are_alike, is_right, machine_of, machine_of_chains, unlike, wrong
from nextsuch.machines import contrary, joined, mirrored
from nextsuch.trees import tree_contrary, tree_joined, tree_mirrored
from nextsuch.unfolded import cleaned, unfolded
from tests.plain import (
    WORDS, Dice, blown_up, is_plainly_least, plain_least, plain_parting, plain_takes, texts_to, thrown_machines)
from tests.plain_doings import AHEAD, BEGINS, SOME, SOONER
from tests.plain_trees import (
    AHEAD_BACK, AHEAD_TREE, EARLY, FIRST_2, IDLE, LOOSE, NO, SHORT, SOME_2, YES, is_plain_tree, plain_gone, plain_ways,
    thrown_chains, thrown_trees, unshared)

TREES = thrown_trees(71, 200)
TEXTS = {wide: texts_to(wide, {1: 9, 2: 7, 3: 5}[wide]) for wide in (1, 2, 3)}
LONG = {wide: [tuple(1 + (at * at + seed * at) // 3 % wide for at in range(20 + seed)) for seed in range(12)]
        for wide in (1, 2, 3)}


def answers(tree, text):
    return plain_gone(tree, text)[2]


class Examples(unittest.TestCase):
    def test_machines(self):
        self.assertEqual(
            (machine_of(2, AHEAD_TREE) == AHEAD, machine_of(2, SHORT) == SOME, is_right(AHEAD, AHEAD_TREE),
             is_right(AHEAD, SHORT)),
            (True, True, True, False))

    def test_texts(self):
        self.assertEqual(
            (wrong(AHEAD, SHORT), unlike(2, AHEAD_TREE, SHORT), are_alike(2, AHEAD_TREE, AHEAD_BACK),
             are_alike(2, AHEAD_TREE, SHORT)),
            ((2,), (2,), True, False))

    def test_chains(self):
        self.assertEqual(
            (machine_of_chains(2, ((((1, 2), (1, 2), (1, 2)), (1, 2)),)) == AHEAD, machine_of_chains(2, ()),
             machine_of_chains(2, ((((1,), (1,)), (2,)), (((2,),), ())))),
            (True, (((0, 0),), ()), (((1, 2), (1, 3), (3, 4), (3, 5), (5, 4), (5, 5)), (0, 2, 3, 4))))

    def test_errors(self):
        for function, given in ((wrong, (AHEAD, AHEAD_TREE)), (unlike, (2, AHEAD_TREE, AHEAD_BACK))):
            with self.assertRaises(CanNot) as caught:
                function(*given)
            self.assertEqual(vars(caught.exception), {})


class MachineOf(unittest.TestCase):
    def test_all_texts_to_a_length(self):
        for wide, tree in TREES:
            told = machine_of(wide, tree)
            self.assertTrue(is_plainly_least(told), told)
            for text in TEXTS[wide] + LONG[wide]:
                self.assertIs(plain_takes(told, text), answers(tree, text), (tree, text))

    def test_it_is_the_one_of_the_rows_that_say_yes(self):
        for wide, tree in TREES:
            chains = tuple(chain for chain, yes, _ in unfolded(wide, tree) if yes)
            self.assertEqual(repr(machine_of(wide, tree)), repr(machine_of_chains(wide, chains)), tree)

    def test_one_knot(self):
        for wide in (1, 2, 3):
            self.assertEqual((machine_of(wide, YES), machine_of(wide, NO)),
                             ((((0,) * wide,), (0,)), (((0,) * wide,), ())))

    def test_letters_that_the_tree_does_not_name(self):
        self.assertEqual(machine_of(3, SHORT), (((0, 1, 0), (1, 1, 1)), (1,)))
        # Whether a 1 comes: what is found lies ahead of the back.
        self.assertEqual(machine_of(3, IDLE), (((1, 0, 0), (1, 1, 1)), (1,)))

    def test_knots_that_are_one_or_apart(self):
        for wide, tree in TREES:
            told = repr(machine_of(wide, tree))
            self.assertEqual(repr(machine_of(wide, unshared(tree))), told)
            self.assertEqual(repr(machine_of(wide, cleaned(wide, tree))), told)

    def test_contrary_mirrored_and_joined(self):
        for wide, tree in TREES:
            told = machine_of(wide, tree)
            self.assertEqual(machine_of(wide, tree_contrary(tree)), contrary(told))
            self.assertEqual(machine_of(wide, tree_mirrored(tree)), mirrored(told))
        for at, (wide, one) in enumerate(TREES[::2]):
            for other_wide, other in TREES[at % 17::17]:
                if wide == other_wide:
                    word = WORDS[at % 3]
                    self.assertEqual(machine_of(wide, tree_joined(one, other, word)),
                                     joined(machine_of(wide, one), machine_of(wide, other), word))

    def test_asks_outward_and_at_the_ends(self):
        for side in ("next", "last"):
            for spot in (0, 1, 2):
                for one, other in ((2, 0), (2, 1), (3, 0), (3, 1), (2, 3)):
                    tree = (("ask", 0, "next", (1,), 1), ("ask", spot, side, (1, 2), 2), ("order", one, other, 3, 4, 5),
                            ("order", 0, 3, 6, 7, 7), ("order", 3, 1, 6, 7, 7), ("order", 2, 1, 6, 7, 7), ("say", True),
                            ("say", False))
                    told = machine_of(3, tree)
                    self.assertTrue(is_plainly_least(told))
                    for text in TEXTS[3][:121]:
                        self.assertIs(plain_takes(told, text), answers(tree, text), (tree, text))


def in_turn(many, letters, side="next"):
    """The tree that asks so many times in a row, for one of the letters in turn, and whether all were found."""
    first, end = (0, 1) if side == "next" else (1, 0)
    knots = [("ask", at + 1 if at else first, side, letters[at % len(letters)], at + 1) for at in range(many)]
    ahead, behind = (many + 1, many + 2) if side == "next" else (many + 2, many + 1)
    return tuple(knots) + (("order", many + 1, end, ahead, many + 2, behind), ("say", True), ("say", False))


class Great(unittest.TestCase):
    def test_very_many_asks_in_a_row(self):
        # State k: so many were found, one behind the other.
        for many in (1, 2, 60, 200):
            steps = tuple((own + 1, own) if own % 2 == 0 else (own, own + 1) for own in range(many)) + ((many, many),)
            self.assertEqual(machine_of(2, in_turn(many, ((1,), (2,)))), (steps, (many,)))
            told = in_turn(many, ((1,), (2,)), "last")
            self.assertTrue(is_plain_tree(2, told))
            self.assertEqual(machine_of(2, told), mirrored((steps, (many,))))

    def test_to_and_fro(self):
        # On to the second next letter, back by one: three asks lead on by one place, or stay where no letter is left.
        knots = []
        for at in range(60):
            spot = 3 * at + 1 if at else 0
            knots += [("ask", spot, "next", (1, 2), 3 * at + 1), ("ask", 3 * at + 2, "next", (1, 2), 3 * at + 2),
                      ("ask", 3 * at + 3, "last", (1, 2), 3 * at + 3)]
        tree = tuple(knots) + (("order", 181, 1, 181, 182, 182), ("say", True), ("say", False))
        told = machine_of(2, tree)
        for size in list(range(64)) + [100]:
            self.assertIs(plain_takes(told, (1,) * size), answers(tree, (1,) * size))
        self.assertTrue(is_plainly_least(told))

    def test_many_knots_that_forget(self):
        # Letter by letter: what comes behind the last spot decides the branch, and no older spot is named again.
        knots, levels = [], 30
        for level in range(levels):
            at = 3 * level
            last = 2 * level + 1 if level else 0
            end = 3 * levels
            knots += [("ask", last, "next", (1,), at + 1), ("ask", last, "next", (1, 2), at + 2),
                      ("order", 2 * level + 2, 2 * level + 3, end, at + 3 if level + 1 < levels else end, end + 1)]
        tree = tuple(knots) + (("say", False), ("say", True))
        # The next 1 is the next letter as long as 1s come; at the back both are one.
        self.assertTrue(is_plain_tree(2, tree))
        told = machine_of(2, tree)
        self.assertTrue(is_plainly_least(told))
        for size in range(34):
            for text in ((1,) * size, (1,) * size + (2,), (1,) * size + (2, 1), (1,) * size + (2, 2, 1, 1)):
                self.assertIs(plain_takes(told, text), answers(tree, text), text)

    def test_six_spots_that_are_all_named(self):
        asks = [("ask", 0, "next", (1,), 1), ("ask", 1, "last", (2,), 2), ("ask", 2, "next", (2,), 3),
                ("ask", 3, "last", (1,), 4), ("ask", 5, "next", (3,), 5), ("ask", 4, "last", (3,), 6)]
        pairs = [(one, other) for one in range(2, 8) for other in range(one + 1, 8)]
        knots = [("order", one, other, at + 7, at + 8 if at % 2 and at < 14 else at + 7, 22 if at % 3 else 21)
                 for at, (one, other) in enumerate(pairs)]
        tree = tuple(asks + knots) + (("say", True), ("say", False))
        self.assertTrue(is_plain_tree(3, tree))
        told = machine_of(3, tree)
        self.assertTrue(is_plainly_least(told))
        for text in texts_to(3, 6) + LONG[3]:
            self.assertIs(plain_takes(told, text), answers(tree, text), text)

    def test_many_trees_in_one(self):
        # Trees joined over and over: asks of one are never named by another one.
        told, machine = SHORT, machine_of(2, SHORT)
        for at, (wide, tree) in enumerate([own for own in TREES if own[0] == 2][:24]):
            told = tree_joined(told, tree, WORDS[at % 3])
            machine = joined(machine, machine_of(2, tree), WORDS[at % 3])
            if len(told) > 3000:
                break
            self.assertEqual(machine_of(2, told), machine)
        self.assertGreater(at, 3)


class OfChains(unittest.TestCase):
    def test_all_texts_to_a_length(self):
        chains = thrown_chains(72, 120)
        for at, (wide, chain) in enumerate(chains):
            some = [own for own_wide, own in chains[at::11] if own_wide == wide][:1 + at % 4]
            told = machine_of_chains(wide, tuple(some))
            self.assertTrue(is_plainly_least(told))
            for text in TEXTS[wide][:364]:
                self.assertIs(plain_takes(told, text), any(plain_ways(own, text) for own in some), (some, text))

    def test_known_ones(self):
        for wide, chain in ((3, FIRST_2), (2, LOOSE), (2, (((), ()), (1,))), (1, (((1,),), ())), (3, (((),), ()))):
            told = machine_of_chains(wide, (chain,))
            for text in TEXTS[wide]:
                self.assertIs(plain_takes(told, text), plain_ways(chain, text) != [])
            self.assertEqual(machine_of_chains(wide, (chain, chain, chain)), told)
            self.assertEqual(machine_of_chains(wide, [[list(chain[0]), list(chain[1])]]), told)

    def test_no_chains(self):
        self.assertEqual([machine_of_chains(wide, ()) for wide in (1, 2, 3)],
                         [(((0,),), ()), (((0, 0),), ()), (((0, 0, 0),), ())])
        self.assertEqual(machine_of_chains(2, []), (((0, 0),), ()))

    def test_in_whatever_order(self):
        chains = [own for wide, own in thrown_chains(73, 90) if wide == 2][:12]
        told = machine_of_chains(2, tuple(chains))
        self.assertEqual(machine_of_chains(2, tuple(chains[::-1])), told)
        self.assertEqual(machine_of_chains(2, tuple(chains[5:] + chains[:5] + chains[:2])), told)

    def test_twelve_of_eight_marks(self):
        dice = Dice(74)
        chains = tuple((tuple(((), (1,), (2,), (1, 2))[dice.below(4)] for _ in range(9)),
                        tuple(1 + dice.below(2) for _ in range(8))) for _ in range(12))
        told = machine_of_chains(2, chains)
        for text in [own[1] for own in chains] + LONG[2] + [own[1] + (1,) for own in chains] + [(1,) * 8, (2,) * 9, ()]:
            if len(text) < 14:
                self.assertIs(plain_takes(told, text), any(plain_ways(own, text) for own in chains))

    def test_very_many(self):
        tree = tuple(("ask", at + 1 if at else 0, "next", (1, 2, 3), at + 1) for at in range(6)) + (
            ("order", 7, 1, 7, 8, 8), ("say", True), ("say", False))
        chains = tuple(chain for chain, yes, _ in unfolded(3, tree) if yes)
        self.assertEqual(len(chains), 729)
        self.assertEqual(machine_of_chains(3, chains), machine_of(3, tree))


class Judged(unittest.TestCase):
    def test_right_for_its_machine(self):
        dice = Dice(75)
        for wide, tree in TREES:
            own = machine_of(wide, tree)
            self.assertIs(is_right(own, tree), True)
            if len(own[0]) < 7:
                fat = blown_up(dice, own, 8)
                self.assertIs(is_right(fat, tree), True)
                self.assertRaises(CanNot, wrong, fat, tree)
            self.assertIs(is_right(contrary(own), tree), False)
            self.assertEqual(wrong(contrary(own), tree), ())

    def test_the_least_text_that_is_wrong(self):
        machines = [own for own in thrown_machines(76, 60) if len(own[0]) < 5] + [AHEAD, SOME, SOONER, BEGINS]
        for at, machine in enumerate(machines):
            wide = len(machine[0][0])
            for own_wide, tree in TREES[at % 7::7]:
                if wide == own_wide:
                    self.check(wide, tree, lambda text: plain_takes(machine, text), plain_least(machine),
                               lambda: is_right(machine, tree), lambda: wrong(machine, tree))

    def test_the_least_text_that_is_answered_unlike(self):
        for at, (wide, one) in enumerate(TREES):
            for own_wide, other in TREES[at % 29::29]:
                if wide == own_wide:
                    self.check(wide, one, lambda text: answers(other, text), machine_of(wide, other),
                               lambda: are_alike(wide, one, other), lambda: unlike(wide, one, other))

    def check(self, wide, tree, told_of, other, is_same, parting):
        own = machine_of(wide, tree)
        plain = next((text for text in TEXTS[wide][:250] if answers(tree, text) != told_of(text)), None)
        self.assertIs(is_same(), own == other)
        if own == other:
            self.assertIsNone(plain)
            self.assertRaises(CanNot, parting)
            return
        text = parting()
        self.assertIs(type(text), tuple)
        self.assertNotEqual(answers(tree, text), told_of(text))
        self.assertLess(len(text), len(own[0]) + len(other[0]))
        self.assertEqual(text, plain_parting(own, other))
        if plain is not None:
            self.assertEqual(text, plain)

    def test_wrong_on_either_side(self):
        # The TREE answers True though the MACHINE does not take it; False though it does.
        self.assertEqual((wrong((((0, 0),), ()), SHORT), wrong((((0, 0),), (0,)), SHORT)), ((2,), ()))
        self.assertEqual(wrong((((1, 0), (1, 1)), (1,)), SHORT), (1,))

    def test_alike_by_unlike_asks(self):
        self.assertIs(are_alike(2, SHORT, SOME_2), True)
        self.assertIs(are_alike(2, EARLY, EARLY), True)
        self.assertIs(are_alike(2, SHORT, tree_contrary(SOME_2)), False)
        self.assertEqual(unlike(2, YES, NO), ())
        self.assertEqual(unlike(2, EARLY, SHORT), (1,))
        self.assertIs(are_alike(1, YES, (("ask", 0, "next", (1,), 1), ("say", True))), True)

    def test_a_long_text(self):
        one, other = in_turn(12, ((1,), (2,))), in_turn(13, ((1,), (2,)))
        self.assertEqual(unlike(2, one, other), (1, 2) * 6)
        self.assertIs(are_alike(2, one, other), False)


if __name__ == "__main__":
    unittest.main()
