"""The document as a whole: what it promises across its sections."""

import unittest

from nextsuch.against import against, asks_needed, is_against, wall
from nextsuch.asks import named, turned
from nextsuch.changes import asked_again, can_turn, turning
from nextsuch.chains import is_single
from nextsuch.desk import desk
from nextsuch.errors import CanNot, TooMuch
from nextsuch.judge import comes_of, first_false, is_so, paper, verdicts
from nextsuch.judged import are_alike, is_right, machine_of, unlike, wrong
from nextsuch.kinds import bar, is_bar, kinds, texts_by
from nextsuch.looks import look, looks_against, made_looks
from nextsuch.machines import least, mirrored
from nextsuch.made import made, made_backward, made_coming, made_onward, of_chains
from nextsuch.namings import are_one, letters_there, order_of, unlike_named
from nextsuch.trees import answer, depth, is_tree, manners, run, tree_contrary, tree_mirrored
from nextsuch.unfolded import chain_of, cleaned, unfolded
from nextsuch.words import changed
from nextsuch.writing import (
    read_bar, read_chains, read_machine, read_naming, read_text, read_tree, write_bar, write_chains, write_machine,
    write_naming, write_text, write_tree)
from tests.plain import Dice, plain_takes, texts_to
from tests.plain_doings import SMALL_KINDS, plain_doings
from tests.plain_looks import long_texts
from tests.plain_trees import NO, YES, plain_gone, plain_ways, thrown_trees
from tests.test_namings import plain_named, plain_order, thrown_naming

# Machines of few own doings, each with its least one and its kinds.
FEW = [(machine, own, told) for machine, own, told in SMALL_KINDS if len(plain_doings(own)) <= 24]
TEXTS = {wide: texts_to(wide, {1: 7, 2: 4, 3: 3}[wide]) + long_texts(230 + wide, wide, 6, 20) for wide in (1, 2, 3)}
MAKERS = {"asks": made, "onward": made_onward, "backward": made_backward, "coming": made_coming}


class Guarantees(unittest.TestCase):
    def test_a_tree_or_a_bar(self):
        # (a) and (b) of the overview.
        trees = {wide: [tree for own_wide, tree in thrown_trees(231, 40) if own_wide == wide] for wide in (1, 2, 3)}
        for machine, own, told in FEW[::3]:
            wide = len(own[0][0])
            self.assertEqual(kinds(machine), told)
            for kind, maker in MAKERS.items():
                if kind in told:
                    self.assertIs(is_right(machine, maker(machine)), True)
                    self.assertRaises(CanNot, bar, machine, kind)
                else:
                    self.assertRaises(CanNot, maker, machine)
                    self.assertIs(is_bar(machine, bar(machine, kind)), True)
            if "asks" not in told:
                own_bar = bar(machine, "asks")
                for tree in trees[wide][::4]:
                    pair = against(machine, tree)
                    self.assertIs(is_against(machine, tree, pair), True)
                    self.assertIs(is_right(machine, tree), False)
                    # The pair that the bar tells by the depth, too, as long as its wall.
                    pair = texts_by(own_bar, max(1, depth(tree)))
                    self.assertIs(is_against(machine, tree, pair), True)
                    self.assertEqual(max(len(text) for text in pair), wall(own_bar, depth(tree)))
                    self.assertGreater(asks_needed(own_bar, wall(own_bar, depth(tree))), depth(tree))

    def test_looks(self):
        for machine, own, told in FEW[::3]:
            wide = len(own[0][0])
            if "looks" in told:
                tree = made_looks(machine)
                for text in TEXTS[wide]:
                    self.assertIs(look(tree, text), plain_takes(own, text))
            else:
                for other, _, other_told in FEW[::9]:
                    if "looks" in other_told and len(other[0][0]) == wide:
                        one, two = looks_against(bar(machine, "looks"), made_looks(other))
                        self.assertIs(look(made_looks(other), one), look(made_looks(other), two))
                        self.assertNotEqual(plain_takes(own, one), plain_takes(own, two))

    def test_chains_tell_what_trees_tell(self):
        # (c): a text fits just one of the chains, in one way.
        for wide, tree in thrown_trees(232, 60):
            rows = unfolded(wide, tree)
            self.assertTrue(all(is_single(chain) for chain, _, _ in rows))
            for text in TEXTS[wide][:30]:
                fit = [(row, plain_ways(row[0], text)) for row in rows if plain_ways(row[0], text)]
                self.assertEqual([len(fit), len(fit[0][1])], [1, 1])
                row, (places,) = fit[0]
                self.assertEqual(row, chain_of(wide, tree, text))
                self.assertIs(row[1], answer(tree, text))
                places = (0,) + places + (len(text) + 1,)
                self.assertEqual(run(tree, text)[0], tuple(places[mark] for mark in row[2]))

    def test_least_texts_by_which_they_differ(self):
        # (d): of trees and machines, and of two trees.
        trees = thrown_trees(233, 40)
        for at, (wide, tree) in enumerate(trees):
            for other_wide, other in trees[at % 5::5]:
                if wide == other_wide and not are_alike(wide, tree, other):
                    text = unlike(wide, tree, other)
                    self.assertEqual(text, wrong(machine_of(wide, other), tree))
                    self.assertNotEqual(plain_gone(tree, text)[2], plain_gone(other, text)[2])


class WayThrough(unittest.TestCase):
    def machines(self):
        for machine, own, told in FEW[::2]:
            if "asks" in told:
                yield len(own[0][0]), machine, made(machine)

    def test_made_written_read_and_judged(self):
        for wide, machine, tree in self.machines():
            self.assertIs(is_tree(wide, tree), True)
            self.assertEqual(read_tree(wide, write_tree(tree)), tree)
            self.assertEqual(read_machine(write_machine(machine)), machine)
            self.assertIs(is_right(read_machine(write_machine(machine)), read_tree(wide, write_tree(tree))), True)
            claims = (("right", machine, tree), ("kind", machine, "asks"), ("alike", wide, tree, cleaned(wide, tree)),
                      ("right", machine, tree_contrary(tree)), ("alike", wide, YES, NO))
            self.assertEqual(verdicts(claims, [(), (), (), (), ()])[:3], ["for"] * 3)
            self.assertEqual(verdicts(claims, [paper(claim) for claim in claims]), ["for"] * 3 + ["against"] * 2)
            self.assertEqual((first_false(claims), first_false(claims[:3])), (3, None))
            self.assertIs(comes_of(claims[1], claims[:1]), True)
            for manner in manners(tree):
                self.assertIs(comes_of(("kind", machine, manner), claims[:1]), True)
                self.assertIs(is_so(("kind", machine, manner)), True)

    def test_unfolded_written_and_made_again(self):
        for wide, machine, tree in self.machines():
            chains = tuple(chain for chain, yes, _ in unfolded(wide, tree) if yes)
            self.assertEqual(read_chains(wide, write_chains(chains)), chains)
            again = of_chains(wide, chains)
            self.assertIs(is_right(machine, again), True)
            self.assertTrue(all(is_so(("single", wide, chain)) for chain in chains))
            for one, other in zip(chains, chains[1:]):
                self.assertIs(is_so(("apart", wide, one, other)), True)
            self.assertIs(is_right(mirrored(machine), tree_mirrored(again)), True)

    def test_changes_at_the_desk(self):
        dice = Dice(234)
        for wide, machine, tree in self.machines():
            text = TEXTS[wide][dice.below(len(TEXTS[wide]))]
            turns = turning(wide, tree, text)
            self.assertLessEqual({*turns}, {*can_turn(wide, tree, text)})
            lines = [f"wide {wide}", "tree", *[" " + own for own in write_tree(tree).split("\n")], "row", " " + write_text(text)]
            for change in can_turn(wide, tree, text)[:4]:
                told = desk("\n".join(lines + ["answers", " ".join(map(str, change)), "answers", "again 0", "moved"]))
                yes = ["yes" if plain_takes(machine, own) else "no" for own in (text, changed(text, change))]
                self.assertEqual(told, ["done"] * 3 + [yes[0], "done", yes[1]] + [
                    " ".join(map(str, asked_again(tree, text, change))), "0" if change in turns else "-"])

    def test_bars_written(self):
        for machine, own, told in FEW[::4]:
            for kind in ("asks", "backward", "coming", "looks", "onward"):
                if kind not in told:
                    own_bar = bar(machine, kind)
                    self.assertEqual(read_bar(len(own[0][0]), write_bar(own_bar)), own_bar)
                    for text in own_bar[1:]:
                        self.assertEqual(read_text(3, write_text(text)), text)

    def test_made_trees_against_other_machines(self):
        trees = {}
        for wide, machine, tree in self.machines():
            trees.setdefault(wide, []).append(tree)
        for machine, own, told in FEW[1::4]:
            for tree in trees[len(own[0][0])][::6]:
                try:
                    one, other = against(machine, tree)
                except CanNot:
                    self.assertLessEqual({"asks", *manners(tree)}, {*told})
                    continue
                self.assertIs(answer(tree, one), answer(tree, other))
                self.assertNotEqual(plain_takes(own, one), plain_takes(own, other))


def tree_of_naming(one, other):
    """The tree that asks one, then other, and tells whether what one names lies ahead of what other names."""
    knots, spots = [], []
    for naming in (one, other):
        spot = 0 if naming[0][0] == "next" else 1
        for side, letters in naming:
            knots.append(("ask", spot, side, letters, len(knots) + 1))
            spot = len(knots) + 1
        spots.append(spot)
    if spots[0] == spots[1]:
        return None
    return tuple(knots) + (("order", *spots, len(knots) + 1, len(knots) + 2, len(knots) + 2), ("say", True), ("say", False))


class Namings(unittest.TestCase):
    def test_told_as_a_tree(self):
        dice = Dice(235)
        for at in range(150):
            wide = 1 + at % 3
            one, other = thrown_naming(dice, wide, 1 + dice.below(3)), thrown_naming(dice, wide, 1 + dice.below(3))
            tree = tree_of_naming(one, other)
            self.assertIs(is_tree(wide, tree), True)
            machine = machine_of(wide, tree)
            for text in TEXTS[wide]:
                self.assertIs(plain_takes(machine, text), plain_order(text, one, other) == "ahead")
            # What a TREE tells is of "asks"; so there is one for it, of 24 own doings at most.
            try:
                self.assertIn("asks", kinds(machine))
                self.assertIs(is_right(machine, made(machine)), True)
            except TooMuch:
                pass
            self.assertEqual(order_of(wide, one, other) == "ahead", is_right((((0,) * wide,), (0,)), tree))
            self.assertEqual(read_naming(wide, write_naming(one)), one)
            self.assertIs(is_so(("one", wide, one, other)), are_one(wide, one, other))
            if not are_one(wide, one, other):
                self.assertEqual(paper(("one", wide, one, other)), unlike_named(wide, one, other))

    def test_turned_round(self):
        dice = Dice(236)
        other_end = {"front": "back", "back": "front"}
        for at in range(100):
            wide = 1 + at % 3
            one, other = thrown_naming(dice, wide, 1 + dice.below(6)), thrown_naming(dice, wide, 1 + dice.below(6))
            word = {"ahead": "behind", "behind": "ahead"}.get(order_of(wide, one, other), order_of(wide, one, other))
            self.assertEqual(order_of(wide, turned(one), turned(other)), word)
            self.assertEqual({*letters_there(wide, turned(one))},
                             {other_end.get(what, what) for what in letters_there(wide, one)})
            for text in TEXTS[wide][-6:]:
                self.assertEqual(named(text, one), plain_named(text, one))


class Least(unittest.TestCase):
    def test_what_is_made_of_alike_machines_is_alike(self):
        for machine, own, told in FEW[::5]:
            self.assertEqual(least(machine), own)
            for kind, maker in MAKERS.items():
                if kind in told:
                    self.assertEqual(maker(machine), maker(own))


if __name__ == "__main__":
    unittest.main()
