"""nextsuch/judge.py: section 20 of the document."""

import unittest

from nextsuch.errors import TooMuch, Unfit
from nextsuch.judge import comes_of, first_false, is_claim, is_paper_against, is_paper_for, is_so, paper, verdicts
from nextsuch.judged import machine_of
from nextsuch.made import made
from tests.plain import ODD_THINGS, Dice, listed, plain_takes, resized, swapped, texts_to
from tests.plain_doings import AHEAD, BEGINS, PAIRS, SMALL_KINDS, SOME, SOONER, WITH_201, is_plain_bar, ring
from tests.plain_looks import long_texts
from tests.plain_trees import (
    AHEAD_BACK, AHEAD_TREE, EARLY, FIRST_2, LOOSE, NO, SHORT, SOME_2, YES, is_plain_chain, is_plain_tree, plain_gone,
    plain_ways, thrown_chains, thrown_trees)
from tests.test_asks import is_plain_naming
from tests.test_namings import plain_named, thrown_pairs

SOME_TREE = (("ask", 0, "next", (2,), 1), ("order", 1, 2, 3, 3, 2), ("say", True), ("say", False))
RIGHT = ("right", SOME, SOME_TREE)
ALL_KINDS = ("asks", "backward", "coming", "looks", "onward")
TEXTS = {wide: texts_to(wide, {1: 9, 2: 5, 3: 4}[wide]) + long_texts(210 + wide, wide, 4, 12) for wide in (1, 2, 3)}
TREES = thrown_trees(211, 60)
CHAINS = thrown_chains(212, 60) + [(3, FIRST_2), (2, LOOSE)]
N_1, N_11, L_1 = (("next", (1,)),), (("next", (1,)), ("next", (1,))), (("last", (1,)),)


def answers(tree, text):
    return plain_gone(tree, text)[2]


def wide_of_claim(claim):
    return len(claim[1][0][0]) if claim[0] in ("kind", "right") else claim[1]


def speaks(claim, text):
    """Whether text, one of its letters, is against claim, by the table of section 20; "kind" left out."""
    word, _, *parts = claim
    if word == "right":
        return answers(parts[0], text) != plain_takes(claim[1], text)
    if word == "alike":
        return answers(parts[0], text) != answers(parts[1], text)
    if word == "single":
        return len(plain_ways(parts[0], text)) > 1
    if word == "apart":
        return plain_ways(parts[0], text) != [] != plain_ways(parts[1], text)
    return plain_named(text, parts[0]) != plain_named(text, parts[1])


def some_claims():
    """Claims of each kind, such as are so and others."""
    for machine, own, told in SMALL_KINDS[::8]:
        for kind in ALL_KINDS:
            yield "kind", machine, kind
    for wide, tree in TREES:
        yield "right", machine_of(wide, tree), tree
    for machine, own, told in SMALL_KINDS[::5]:
        for wide, tree in TREES[::9]:
            if wide == len(own[0][0]):
                yield "right", machine, tree
    for at, (wide, tree) in enumerate(TREES):
        for other_wide, other in TREES[at % 9::9] + [(wide, made(machine_of(wide, tree))) if at % 7 == 0 else (wide, YES)]:
            if wide == other_wide:
                yield "alike", wide, tree, other
    for at, (wide, chain) in enumerate(CHAINS):
        yield "single", wide, chain
        for other_wide, other in CHAINS[at % 5::5]:
            if wide == other_wide:
                yield "apart", wide, chain, other
    for wide, one, other in thrown_pairs(213, 60):
        yield "one", wide, one, other


CLAIMS = list(some_claims())


class Examples(unittest.TestCase):
    def test_verdicts(self):
        self.assertEqual(
            verdicts((("kind", BEGINS, "onward"), ("kind", BEGINS, "coming"), RIGHT, ("right", BEGINS, SOME_TREE)),
                     ((), ("coming", (1, 2), (2, 1)), (), (2,))),
            ["for", "against", "for", "against"])
        self.assertEqual(verdicts((("alike", 2, SOME_TREE, YES), ("alike", 2, SOME_TREE, SOME_TREE)), ((), ())),
                         ["against", "for"])
        self.assertEqual(
            verdicts((("single", 2, (((1,), (1, 2)), (2,))), ("single", 2, (((1, 2), (1, 2)), (2,))),
                      ("apart", 2, (((1,),), ()), (((2,),), ()))), ((), (2, 2), ())),
            ["for", "against", "against"])
        self.assertEqual(verdicts((("one", 1, N_1, N_11), ("one", 1, N_1, N_1)), ((1,), ())), ["against", "for"])

    def test_comes_of(self):
        self.assertEqual(
            (comes_of(("kind", SOME, "onward"), (RIGHT,)), comes_of(("kind", SOME, "backward"), (RIGHT,)),
             comes_of(("alike", 2, SOME_TREE, SOME_TREE), (RIGHT,)), comes_of(RIGHT, ())),
            (True, False, True, False))

    def test_error(self):
        with self.assertRaises(Unfit) as caught:
            is_so(("kind", BEGINS, "odd"))
        self.assertEqual(vars(caught.exception), {})


def is_plain_machine(thing):
    if type(thing) is not tuple or len(thing) != 2 or type(thing[0]) is not tuple or type(thing[1]) is not tuple:
        return False
    steps, ends = thing
    if not steps or not all(type(row) is tuple and 1 <= len(row) <= 3 and len(row) == len(steps[0]) for row in steps):
        return False
    states = [own for row in steps for own in row] + list(ends)
    return all(type(own) is int and 0 <= own < len(steps) for own in states) and list(ends) == sorted({*ends})


def is_plain_claim(thing):
    """By the words of section 20."""
    if type(thing) is not tuple or len(thing) not in (3, 4) or type(thing[0]) is not str:
        return False
    word, first, *parts = thing
    if word in ("kind", "right"):
        if len(parts) != 1 or not is_plain_machine(first):
            return False
        return is_plain_tree(len(first[0][0]), parts[0]) if word == "right" else (
            type(parts[0]) is str and parts[0] in ALL_KINDS)
    if word not in ("alike", "single", "apart", "one") or type(first) is not int or not 1 <= first <= 3:
        return False
    is_part = {"alike": is_plain_tree, "single": is_plain_chain, "apart": is_plain_chain, "one": is_plain_naming}[word]
    return len(parts) == (1 if word == "single" else 2) and all(is_part(first, own) for own in parts)


class Claims(unittest.TestCase):
    GOOD = (("kind", BEGINS, "looks"), RIGHT, ("alike", 2, SHORT, SOME_2), ("single", 2, LOOSE), ("apart", 3, FIRST_2, LOOSE),
            ("one", 2, N_1, L_1))

    def test_good_ones(self):
        for claim in CLAIMS:
            self.assertIs(is_claim(claim), True)
            self.assertTrue(is_plain_claim(claim))
            self.assertIs(is_claim(list(claim)), False)
            self.assertIs(is_claim(claim[:2] + (list(claim[2]) if type(claim[2]) is tuple else None,) + claim[3:]), False)

    def test_of_every_kind(self):
        for thing in ODD_THINGS + ("kind", ("kind",), ("right", SOME), RIGHT[1:], list(RIGHT), (RIGHT,), RIGHT + ((),)):
            self.assertIs(is_claim(thing), is_plain_claim(thing), thing)
            for good in self.GOOD:
                for own in ((thing,) + good[1:], good[:1] + (thing,) + good[2:], good[:-1] + (thing,), good + (thing,)):
                    self.assertIs(is_claim(own), is_plain_claim(own), own)

    def test_one_part_changed(self):
        for good in self.GOOD:
            for thing in [*swapped(good, ODD_THINGS[:30] + ("kind", "right", "single", "asks")), *resized(good)]:
                self.assertIs(is_claim(thing), is_plain_claim(thing), thing)

    def test_each_condition_alone(self):
        for thing in (
                ("kind", BEGINS, "odd"), ("kind", BEGINS, "asks", "asks"), ("kind", ((), ()), "asks"), ("right", SOME, NO[:0]),
                ("right", (((0,),), ()), SOME_TREE), ("right", SOME, SOME_TREE, SOME_TREE), ("alike", 1, SHORT, SOME_2),
                ("alike", 4, YES, NO), ("alike", 0, YES, NO), ("alike", True, YES, NO), ("alike", 2, YES), ("alike", 2, YES, ()),
                ("single", 1, LOOSE), ("single", 2, LOOSE, LOOSE), ("apart", 2, FIRST_2, LOOSE), ("apart", 2, LOOSE, FIRST_2),
                ("one", 2, N_1, ()), ("one", 2, (("next", (3,)),), N_1), ("one", 2, N_1, (("next", (3,)),)),
                ("same", 2, YES, NO), ("single", 2, YES), ("one", 2, N_1), (2, "alike", YES, NO)):
            self.assertIs(is_claim(thing), False, thing)
            for lists in (thing, listed(thing, lambda depth: True)):
                for call in (is_so, paper, lambda own: is_paper_for(own, ()), lambda own: is_paper_against(own, ()),
                             lambda own: verdicts((own,), ((),)), lambda own: verdicts((RIGHT, own), ()),
                             lambda own: comes_of(own, (own,)), lambda own: comes_of(RIGHT, (RIGHT, own)),
                             lambda own: first_false((RIGHT, own)), lambda own: first_false((own, RIGHT))):
                    with self.assertRaises(Unfit) as caught:
                        call(lists)
                    self.assertEqual(vars(caught.exception), {})


class Papers(unittest.TestCase):
    def is_plainly_so(self, claim, text):
        """Beside a plain reckoning: no text speaks against it, text, which was told, neither."""
        return not any(speaks(claim, own) for own in TEXTS[wide_of_claim(claim)] + ([text] if text is not None else []))

    def test_so_and_papers(self):
        counts = {}
        for claim in CLAIMS:
            told, so = paper(claim), is_so(claim)
            counts.setdefault(claim[0], []).append(so)
            self.assertIs(type(told), tuple)
            if claim[0] == "kind":
                plain = claim[2] in next(told for machine, own, told in SMALL_KINDS if machine == claim[1])
                self.assertIs(so, plain)
                self.assertTrue(told == () if so else told[0] == claim[2] and is_plain_bar(claim[1], told))
            else:
                self.assertIs(so, self.is_plainly_so(claim, None if so else told), claim)
                self.assertTrue(told == () if so else speaks(claim, told), claim)
            self.assertIs(is_paper_for(claim, told), so)
            self.assertIs(is_paper_against(claim, told), not so)
            self.assertEqual(verdicts([claim], [told]), ["for" if so else "against"])
        for word in ("kind", "right", "alike", "single", "apart", "one"):
            self.assertGreater(min(counts[word].count(True), counts[word].count(False)), 4, word)

    def test_all_short_texts_as_papers(self):
        for claim in CLAIMS[::3]:
            if claim[0] != "kind":
                so = is_so(claim)
                for text in TEXTS[wide_of_claim(claim)][:24]:
                    self.assertIs(is_paper_for(claim, text), so and text == (), (claim, text))
                    self.assertIs(is_paper_against(claim, text), not so and speaks(claim, text), (claim, text))

    def test_the_empty_text_against(self):
        for claim in (("alike", 2, YES, NO), ("right", SOME, YES), ("apart", 2, (((1,),), ()), (((2,),), ())),
                      ("one", 2, N_1, L_1)):
            self.assertEqual((is_so(claim), is_paper_for(claim, ()), is_paper_against(claim, ())), (False, False, True))
            self.assertEqual(verdicts((claim,), ((),)), ["against"])
        for claim in (("alike", 2, SHORT, EARLY), ("single", 2, LOOSE), ("kind", PAIRS, "asks"), ("one", 2, N_1, N_11)):
            self.assertEqual((is_so(claim), is_paper_for(claim, ()), is_paper_against(claim, ())), (False, False, False))

    def test_things_of_every_kind(self):
        for claim in Claims.GOOD + (("right", BEGINS, SHORT), ("apart", 2, LOOSE, LOOSE), ("alike", 2, YES, NO), ("kind", PAIRS, "asks"), ("one", 1, N_1, N_11), ("single", 2, LOOSE)):
            so, wide = is_so(claim), wide_of_claim(claim)
            good = paper(claim)
            things = ODD_THINGS + ((3,), (1, 3), (2, 2, 1), good, list(good), [list(own) if type(own) is tuple else own for own in good], (good,), 3,
                                   *swapped(good, ODD_THINGS[:20]))
            for thing in things:
                self.assertIs(is_paper_for(claim, thing), so and type(thing) is tuple and thing == (), (claim, thing))
                if claim[0] == "kind":
                    told = type(thing) is tuple and len(thing) == 5 and thing[0] == claim[2] and all(
                        type(text) is tuple and all(type(own) is int and 1 <= own <= wide for own in text)
                        for text in thing[1:]) and is_plain_bar(claim[1], thing)
                else:
                    told = type(thing) is tuple and all(type(own) is int and 1 <= own <= wide for own in thing) and (
                        speaks(claim, thing))
                self.assertIs(is_paper_against(claim, thing), not so and told, (claim, thing))

    def test_bars_of_another_word(self):
        bars = {kind: paper(("kind", PAIRS, kind)) for kind in ALL_KINDS}
        for kind in ALL_KINDS:
            for word, bar in bars.items():
                self.assertIs(is_paper_against(("kind", PAIRS, kind), bar), kind == word)
                self.assertIs(is_paper_for(("kind", PAIRS, kind), bar), False)
        # It is of "onward": a bar of another word is no paper against that.
        self.assertIs(is_paper_against(("kind", BEGINS, "onward"), paper(("kind", BEGINS, "backward"))), False)

    def test_long_ways(self):
        # More than 2,000 ways are two unlike ones at least.
        self.assertIs(is_paper_against(("single", 1, (((1,), (1,)), (1,))), (1,) * 3000), True)

    def test_too_much(self):
        for kind in ALL_KINDS:
            claim = ("kind", WITH_201, kind)
            for call in (lambda: is_so(claim), lambda: paper(claim), lambda: is_paper_for(claim, None),
                         lambda: is_paper_against(claim, None), lambda: verdicts((claim,), (None,)),
                         lambda: first_false((claim,)), lambda: first_false((RIGHT, claim))):
                with self.assertRaises(TooMuch) as caught:
                    call()
                self.assertEqual(vars(caught.exception), {})
        self.assertRaises(TooMuch, is_so, ("kind", ring(61), "looks"))
        self.assertIs(is_so(("kind", ring(61), "asks")), False)
        # No other claim asks for own doings.
        self.assertIs(is_so(("right", WITH_201, YES)), False)
        self.assertEqual(verdicts((("right", ring(201), NO),), ((),)), ["against"])
        self.assertIs(comes_of(("kind", WITH_201, "asks"), (("right", WITH_201, YES),)), True)


class Several(unittest.TestCase):
    def test_verdicts_in_order(self):
        claims, things, plain = [], [], []
        for at, claim in enumerate(CLAIMS[::3]):
            so, told = is_so(claim), paper(claim)
            for thing, word in ((told, "for" if so else "against"), (None, "none"), (list(told), "none"), ("x", "none")):
                claims.append(claim)
                things.append(thing)
                plain.append(word)
        self.assertEqual(verdicts(claims, things), plain)
        self.assertEqual(verdicts(tuple(claims), tuple(things)), plain)
        self.assertEqual((verdicts((), ()), verdicts([], ())), ([], []))

    def test_unlike_numbers(self):
        for claims, things in (((RIGHT,), ()), ((), ((),)), ((RIGHT, RIGHT), ((),)), ((("kind", WITH_201, "asks"),), ())):
            with self.assertRaises(Unfit) as caught:
                verdicts(claims, things)
            self.assertEqual(vars(caught.exception), {})

    def test_first_false(self):
        so = [claim for claim in CLAIMS if is_so(claim)][::9]
        false = [claim for claim in CLAIMS if not is_so(claim)][::9]
        self.assertIsNone(first_false(()))
        self.assertIsNone(first_false(so))
        for at in range(0, len(so), 3):
            for claim in false[::7]:
                self.assertEqual(repr(first_false(so[:at] + [claim] + so[at:] + false)), repr(at))

    def test_first_false_looks_no_further(self):
        bad = ("kind", WITH_201, "asks")
        self.assertEqual(first_false((("alike", 2, YES, NO), bad)), 0)
        self.assertRaises(TooMuch, first_false, (bad, ("alike", 2, YES, NO)))
        self.assertRaises(Unfit, first_false, (bad, ("alike", 2, YES, ())))
        self.assertRaises(Unfit, first_false, (("alike", 2, YES, NO), "x"))
        self.assertRaises(Unfit, verdicts, (bad, ("alike", 2, YES, NO)), ((),))
        self.assertRaises(TooMuch, verdicts, (("alike", 2, YES, NO), bad), ((), ()))

    def test_lists(self):
        for claim in CLAIMS[::10]:
            for told in (lambda depth: True, lambda depth: depth == 0, lambda depth: depth > 1):
                own = listed(claim, told)
                self.assertIs(is_so(own), is_so(claim))
                self.assertEqual(repr(paper(own)), repr(paper(claim)))
                self.assertIs(comes_of(own, [claim]), True)
                self.assertIs(comes_of(claim, (own,)), True)


def plain_closure(claims):
    """All that comes of claims, by the rules of section 20 one after the other, among the trees and names told there."""
    known = {*claims}
    while True:
        new = set()
        for one in known:
            if one[0] in ("alike", "apart", "one"):
                new.add(one[:2] + (one[3], one[2]))
            if one[0] == "kind" and one[2] == "coming":
                new |= {one[:2] + ("onward",), one[:2] + ("backward",)}
            if one[0] == "kind" and one[2] in ("onward", "backward"):
                new.add(one[:2] + ("asks",))
            if one[0] == "right":
                new.add(("kind", one[1], "asks"))
                sides = {knot[2] for knot in one[2] if knot[0] == "ask"}
                new |= {("kind", one[1], kind) for kind, side in (("onward", "next"), ("backward", "last"))
                        if sides <= {side}}
            for other in known:
                if one[0] == other[0] and one[0] in ("alike", "one") and one[1] == other[1] and one[3] == other[2]:
                    new.add(one[:3] + (other[3],))
                if one[0] == "right" and other[0] == "alike" and len(one[1][0][0]) == other[1] and one[2] == other[2]:
                    new.add(one[:2] + (other[3],))
                if one[0] == "right" and other[0] == "right" and one[1] == other[1]:
                    new.add(("alike", len(one[1][0][0]), one[2], other[2]))
        if new <= known:
            return known
        known |= new


MACHINES = (SOME, AHEAD, BEGINS)
PARTS = {"alike": (SOME_TREE, SHORT, YES, AHEAD_BACK), "apart": (LOOSE, (((1,),), ()), (((2,),), ())), "one": (N_1, N_11, L_1)}
ALL_CLAIMS = [("kind", machine, kind) for machine in MACHINES for kind in ALL_KINDS]
ALL_CLAIMS += [("right", machine, tree) for machine in MACHINES for tree in PARTS["alike"]]
ALL_CLAIMS += [(word, wide, one, other) for word, parts in PARTS.items() for wide in (2, 3) for one in parts for other in parts]
ALL_CLAIMS += [("single", 2, chain) for chain in PARTS["apart"]]


class Comes(unittest.TestCase):
    def check(self, claims):
        known = plain_closure(claims)
        for claim in ALL_CLAIMS:
            self.assertIs(comes_of(claim, claims), claim in known, (claim, claims))

    def test_of_none_and_of_one(self):
        self.check(())
        for claim in ALL_CLAIMS:
            self.check((claim,))

    def test_of_several(self):
        dice = Dice(214)
        for at in range(100):
            many = 2 + dice.below(5)
            words = (("alike", "right"), ("alike", "right", "kind"), ("one", "apart", "single"), ("kind", "right"))[at % 4]
            some = [claim for claim in ALL_CLAIMS if claim[0] in words]
            self.check(tuple(some[dice.below(len(some))] for _ in range(many)))

    def test_several_rules_one_behind_the_other(self):
        machine, other = AHEAD, (((1, 0), (1, 2), (2, 2), (2, 2)), (2,))
        trees = [AHEAD_TREE, EARLY, SHORT, SOME_2, AHEAD_BACK]
        claims = [("right", machine, trees[0])] + [("alike", 2, two, one) for one, two in zip(trees, trees[1:])]
        self.assertIs(comes_of(("right", machine, AHEAD_BACK), claims), True)
        self.assertIs(comes_of(("kind", machine, "backward"), claims), True)
        self.assertIs(comes_of(("kind", other, "backward"), claims), False)
        self.assertIs(comes_of(("kind", other, "backward"), claims + [("right", other, trees[2])]), True)
        self.assertIs(comes_of(("right", machine, AHEAD_BACK), claims[:2] + claims[3:]), False)
        # Of two machines with a tree in common that of one is one of the other, too.
        self.assertIs(comes_of(("right", other, trees[0]), claims + [("right", other, AHEAD_BACK)]), True)
        self.assertIs(comes_of(("right", other, YES), claims + [("right", other, AHEAD_BACK)]), False)

    def test_where_no_rule_leads(self):
        # What is so does not come of nothing; what is not so comes of what is not so.
        for claim in ALL_CLAIMS[::5]:
            self.assertIs(comes_of(claim, ()), False)
        self.assertIs(comes_of(("alike", 2, YES, NO), (("alike", 2, NO, YES),)), True)
        self.assertIs(comes_of(("alike", 3, YES, NO), (("alike", 2, NO, YES),)), False)
        self.assertIs(comes_of(("alike", 2, YES, YES), ()), False)
        self.assertIs(comes_of(("one", 2, N_1, N_1), (("one", 2, N_11, N_1),)), True)
        self.assertIs(comes_of(("apart", 2, LOOSE, LOOSE), (("apart", 2, LOOSE, (((),), ())),)), False)
        self.assertIs(comes_of(("single", 3, LOOSE), (("single", 2, LOOSE),)), False)
        self.assertIs(comes_of(("kind", SOME, "coming"), (("kind", SOME, "onward"), ("kind", SOME, "backward"))), False)
        self.assertIs(comes_of(("kind", SOONER, "asks"), (("kind", SOME, "coming"),)), False)

    def test_what_comes_of_what_is_so_is_so(self):
        so = [claim for claim in ALL_CLAIMS if is_so(claim)]
        for at, claim in enumerate(ALL_CLAIMS):
            if comes_of(claim, so[at % 3::3]):
                self.assertIs(is_so(claim), True)

    def test_many_claims(self):
        trees = [YES, NO, SHORT, SOME_2, SOME_TREE, EARLY, AHEAD_TREE, AHEAD_BACK] * 40
        claims = [("alike", 2, one, other) for one, other in zip(trees, trees[1:])]
        self.assertIs(comes_of(("alike", 2, AHEAD_BACK, YES), claims), True)


if __name__ == "__main__":
    unittest.main()
