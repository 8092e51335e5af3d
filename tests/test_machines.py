"""nextsuch/machines.py: section 5 of the document, and what section 3 says of machines and of the least."""

import unittest

from nextsuch.errors import CanNot, Unfit
from nextsuch.machines import (
    alike, contrary, first_taken, is_machine, joined, least, mirrored, parting, state_after, takes, wide_of)
from tests.plain import (
    KNOWN, ODD_THINGS, WORDS, Dice, all_machines, blown_up, goes_on, is_plainly_least, listed, nested, plain_least,
    plain_parting, plain_product, plain_takes, plain_word, resized, swapped, takes_turned, texts_to, thrown_machine,
    thrown_machines, turned_round)

ODD, LAST = (((1, 0), (0, 1)), (1,)), (((0, 1), (0, 1)), (1,))
FAT = (((1, 2), (3, 0), (3, 0), (3, 4), (4, 4), (0, 0)), (3, 4))
NONE, ALL = (((0, 0),), ()), (((0, 0),), (0,))

# All machines of few states; of those with two letters and three states each seventh one.
SMALL = [own for states, wide in ((1, 1), (1, 2), (1, 3), (2, 1), (2, 2), (2, 3), (3, 1))
         for own in all_machines(states, wide)] + all_machines(3, 2)[::7] + all_machines(4, 1)[::5]
THROWN = thrown_machines(1, 240)


def read_as_many(machines):
    """The machines by how many letters they read."""
    return [[own for own in machines if len(own[0][0]) == wide] for wide in (1, 2, 3)]


def is_plain_set(thing, bound):
    if type(thing) is not tuple or any(type(own) is not int for own in thing):
        return False
    return thing == tuple(own for own in sorted(set(thing)) if -1 < own < bound)


def is_plain_machine(thing):
    if type(thing) is not tuple or len(thing) != 2 or type(thing[0]) is not tuple or thing[0] == ():
        return False
    for row in thing[0]:
        if type(row) is not tuple or len(row) not in (1, 2, 3) or len(row) != len(thing[0][0]):
            return False
        if any(type(own) is not int or own < 0 or own >= len(thing[0]) for own in row):
            return False
    return is_plain_set(thing[1], len(thing[0]))


class Examples(unittest.TestCase):
    def test_taken_and_least(self):
        self.assertEqual(
            (takes(ODD, (1, 2, 1, 1)), takes(LAST, (1, 2, 1)), state_after(FAT, (1, 2, 2)), least(FAT),
             alike(FAT, least(FAT))),
            (True, False, 2, (((1, 1), (2, 0), (2, 2)), (2,)), True))

    def test_joined_and_least_texts(self):
        self.assertEqual(
            (joined(ODD, LAST, "both"), first_taken(joined(ODD, LAST, "both")), parting(ODD, LAST), parting(FAT, LAST)),
            ((((1, 0), (0, 2), (0, 2)), (2,)), (1, 2), (1,), (2,)))

    def test_unlike_contrary_mirrored(self):
        self.assertEqual(
            (joined(ODD, LAST, "unlike"), contrary(LAST), mirrored(LAST)),
            ((((1, 2), (0, 3), (1, 2), (0, 3)), (1, 2)), (((0, 1), (0, 1)), (0,)), (((1, 2), (1, 1), (2, 2)), (2,))))

    def test_mirrored_twice(self):
        self.assertEqual(
            (mirrored(mirrored(LAST)) == LAST, mirrored(FAT) == (((1, 0), (2, 3), (2, 2), (1, 1)), (2, 3)),
             wide_of(ODD)),
            (True, True, 2))

    def test_things(self):
        things = (ODD, (((0,),), ()), (((0,),), [0]), (((2, 0), (0, 1)), (1,)), ((), ()), (((0, 0), (0,)), ()),
                  (((0,),), (True,)))
        self.assertEqual([is_machine(own) for own in things], [True, True, False, False, False, False, False])

    def test_errors(self):
        with self.assertRaises(CanNot):
            parting(LAST, LAST)
        with self.assertRaises(Unfit):
            alike(ODD, (((0,),), ()))


class Reading(unittest.TestCase):
    def test_known_machines(self):
        for name, machine, told in KNOWN:
            for text in texts_to(len(machine[0][0]), 6):
                self.assertIs(takes(machine, text), told(text), (name, text))

    def test_all_short_texts(self):
        for machine in SMALL[::9] + THROWN[:120]:
            for text in texts_to(len(machine[0][0]), 4):
                state = goes_on(machine, 0, text)
                self.assertEqual(repr(state_after(machine, text)), repr(state))
                self.assertIs(takes(machine, text), state in machine[1])

    def test_wide(self):
        for machine in SMALL + THROWN:
            self.assertEqual(repr(wide_of(machine)), repr(len(machine[0][-1])))

    def test_the_empty_text_leads_to_state_0(self):
        for machine in THROWN:
            self.assertEqual(state_after(machine, ()), 0)
            self.assertIs(takes(machine, ()), 0 in machine[1])

    def test_long_texts(self):
        for size in (60, 61, 10000, 10001):
            self.assertIs(takes(ODD, (1,) * size + (2,) * 7), size % 2 == 1)
            self.assertEqual(state_after((((1,), (2,), (0,)), ()), (1,) * size), size % 3)


class Least(unittest.TestCase):
    def test_all_small_machines(self):
        for machine in SMALL:
            self.assertEqual(repr(least(machine)), repr(plain_least(machine)), machine)

    def test_thrown_machines(self):
        for machine in THROWN[:96]:
            self.assertEqual(repr(least(machine)), repr(plain_least(machine)), machine)

    def test_it_is_alike_and_least(self):
        for machine in THROWN + thrown_machines(2, 240):
            told = least(machine)
            self.assertIsNone(plain_parting(machine, told), machine)
            self.assertTrue(is_plainly_least(told), machine)
            self.assertEqual(least(told), told)

    def test_states_alike_and_states_never_come_to(self):
        dice = Dice(3)
        for machine in THROWN[:160]:
            told = least(machine)
            for states in (len(told[0]), len(told[0]) + 1, 8, 12):
                if states >= len(told[0]):
                    self.assertEqual(repr(least(blown_up(dice, told, states))), repr(told))
            steps, ends = machine
            lost = len(steps) + 1
            more = tuple((dice.below(lost + 1),) * len(steps[0]) for _ in (0, 1))
            self.assertEqual(least((steps + more, ends + (lost,))), told)

    def test_one_state_no_ends_all_ends(self):
        for wide in (1, 2, 3):
            none, everything = (((0,) * wide,), ()), (((0,) * wide,), (0,))
            self.assertEqual((least(none), least(everything)), (none, everything))
        for steps, _ in THROWN:
            wide = len(steps[0])
            self.assertEqual(least((steps, ())), (((0,) * wide,), ()))
            self.assertEqual(least((steps, tuple(range(len(steps))))), (((0,) * wide,), (0,)))

    def test_many_states(self):
        many = 300
        line = tuple((min(at + 1, many - 1), 0) for at in range(many))
        self.assertEqual(least((line, (many - 1,))), (line, (many - 1,)))
        ring = tuple(((at + 1) % many, at) for at in range(many))
        thirds = tuple(range(0, many, 3))
        self.assertEqual(least((ring, thirds)), (((1, 0), (2, 1), (0, 2)), (0,)))


class Alike(unittest.TestCase):
    def test_alike_exactly_if_no_text_parts_them(self):
        for machines in read_as_many(SMALL[::23]):
            for one in machines[:40]:
                for other in machines[:40]:
                    told = plain_parting(one, other) is None
                    self.assertIs(alike(one, other), told, (one, other))
                    self.assertIs(least(one) == least(other), told)

    def test_blown_up_ones_are_alike(self):
        dice = Dice(4)
        for machine in THROWN[:120]:
            self.assertIs(alike(machine, blown_up(dice, machine, 11)), True)
            self.assertIs(alike(machine, contrary(machine)), False)

    def test_another_end_is_seen_if_it_is_come_to(self):
        for steps, ends in THROWN[:120]:
            come_to = {goes_on((steps, ends), 0, text) for text in texts_to(len(steps[0]), min(len(steps), 5))}
            for state in range(len(steps)):
                turned = tuple(sorted({*ends} ^ {state}))
                self.assertIs(alike((steps, ends), (steps, turned)), plain_parting((steps, ends), (steps, turned)) is None)
                if state in come_to:
                    self.assertIs(alike((steps, turned), (steps, ends)), False)


class Joined(unittest.TestCase):
    def check(self, one, other, word):
        told = joined(one, other, word)
        plain = plain_product(one, other, word)
        self.assertIsNone(plain_parting(told, plain), (one, other, word))
        self.assertTrue(is_plainly_least(told), (one, other, word))
        self.assertEqual(repr(told), repr(least(plain)))

    def test_small_pairs(self):
        kept = [{repr(least(own)): own for own in machines} for machines in read_as_many(SMALL)]
        for one_by_name in kept:
            machines = list(one_by_name.values())
            machines = machines[:20] + machines[20::max(1, len(machines) // 16)]
            for one in machines:
                for other in machines:
                    for word in WORDS:
                        self.check(one, other, word)

    def test_thrown_pairs(self):
        for machines in read_as_many(THROWN):
            for one, other in zip(machines, machines[3:40]):
                for word in WORDS:
                    self.check(one, other, word)

    def test_what_is_taken_by_the_words(self):
        for machines in read_as_many(THROWN):
            wide = len(machines[0][0][0])
            for one, other in zip(machines[:30], machines[5:]):
                for word in WORDS:
                    told = joined(one, other, word)
                    for text in texts_to(wide, 4):
                        said = plain_word(word, plain_takes(one, text), plain_takes(other, text))
                        self.assertIs(takes(told, text), said)

    def test_with_nothing_and_everything(self):
        for machine in read_as_many(SMALL)[1][::11]:
            own = least(machine)
            self.assertEqual([joined(machine, NONE, word) for word in WORDS], [NONE, own, own])
            self.assertEqual([joined(ALL, machine, word) for word in WORDS], [own, ALL, contrary(machine)])
            self.assertEqual([joined(machine, machine, word) for word in WORDS], [own, own, NONE])


class Contrary(unittest.TestCase):
    def test_it_takes_the_others_and_is_least(self):
        for machine in SMALL[::3] + THROWN:
            told = contrary(machine)
            steps, ends = machine
            others = steps, tuple(own for own in range(len(steps)) if own not in ends)
            self.assertIsNone(plain_parting(told, others))
            self.assertTrue(is_plainly_least(told))
            self.assertEqual(repr(contrary(told)), repr(least(machine)))
            self.assertEqual(joined(machine, told, "unlike"), (((0,) * len(steps[0]),), (0,)))

    def test_nothing_and_everything(self):
        self.assertEqual((contrary(NONE), contrary(ALL)), (ALL, NONE))
        self.assertEqual(contrary((((1,), (2,), (0,)), ())), (((0,),), (0,)))


class Mirrored(unittest.TestCase):
    def check(self, machine):
        told = mirrored(machine)
        self.assertTrue(takes_turned(machine, told), machine)
        self.assertTrue(is_plainly_least(told), machine)
        self.assertEqual(repr(mirrored(told)), repr(least(machine)))

    def test_all_small_machines(self):
        for machine in SMALL:
            self.check(machine)

    def test_thrown_machines(self):
        for machine in THROWN[:96]:
            self.check(machine)

    def test_all_short_texts(self):
        for machine in THROWN[:48]:
            told = mirrored(machine)
            for text in texts_to(len(machine[0][0]), 5):
                self.assertIs(takes(told, text), plain_takes(machine, turned_round(text)))

    def test_known_machines(self):
        for name, machine, told in KNOWN:
            turned = mirrored(machine)
            for text in texts_to(len(machine[0][0]), 5):
                self.assertIs(takes(turned, text), told(turned_round(text)), name)

    def test_one_letter_is_the_same_turned_round(self):
        for machine in read_as_many(SMALL + THROWN)[0]:
            self.assertEqual(mirrored(machine), least(machine))

    def test_eight_states_may_come_to_as_many_as_there_are_sets(self):
        steps = tuple(((at + 1) % 8, (1, 0, 2, 3, 4, 5, 6, 7)[at], max(1, at)) for at in range(8))
        machine = steps, (0, 2, 4)
        told = mirrored(machine)
        self.assertEqual(len(told[0]), 256)
        self.assertTrue(takes_turned(machine, told))
        self.assertEqual(mirrored(told), least(machine))
        self.assertEqual(least(told), told)
        self.assertEqual(joined(told, told, "both"), told)


class FirstTaken(unittest.TestCase):
    def test_against_texts_tried_in_order(self):
        for machine in SMALL + THROWN[:48]:
            tries = texts_to(len(machine[0][0]), min(len(machine[0]) - 1, 6))
            taken = [text for text in tries if plain_takes(machine, text)]
            if taken:
                self.assertEqual(repr(first_taken(machine)), repr(taken[0]), machine)
            elif len(machine[0]) < 8:
                self.assertRaises(CanNot, first_taken, machine)

    def test_it_is_what_parts_from_nothing(self):
        for machine in THROWN:
            told = plain_parting(machine, (((0,) * len(machine[0][0]),), ()))
            if told is None:
                self.assertRaises(CanNot, first_taken, machine)
            else:
                self.assertEqual(first_taken(machine), told)

    def test_the_shorter_comes_ahead_of_the_lesser(self):
        self.assertEqual(first_taken((((1, 2), (3, 3), (4, 3), (4, 4), (4, 4)), (4,))), (2, 1))
        self.assertEqual(first_taken((((1, 3), (2, 1), (3, 3), (3, 3)), (3,))), (2,))

    def test_nothing_taken(self):
        for machine in (NONE, (((0,),), ()), (((0, 0, 0), (1, 1, 1)), (1,)), (((1, 2), (2, 0), (0, 1)), ())):
            self.assertRaises(CanNot, first_taken, machine)
        with self.assertRaises(CanNot) as caught:
            first_taken(NONE)
        self.assertEqual(vars(caught.exception), {})

    def test_the_empty_text(self):
        for machine in (ALL, (((1,), (0,)), (0,)), contrary(LAST)):
            self.assertEqual(repr(first_taken(machine)), "()")

    def test_a_long_way(self):
        many = 300
        line = tuple((min(at + 1, many - 1), 0) for at in range(many))
        self.assertEqual(first_taken((line, (many - 1,))), (1,) * (many - 1))


class Parting(unittest.TestCase):
    def check(self, one, other):
        told = plain_parting(one, other)
        if told is None:
            self.assertRaises(CanNot, parting, one, other)
        else:
            self.assertEqual(repr(parting(one, other)), repr(told), (one, other))
            self.assertTrue(plain_takes(one, told) != plain_takes(other, told))
            self.assertLessEqual(len(told), max(0, len(least(one)[0]) + len(least(other)[0]) - 2))

    def test_small_pairs(self):
        for machines in read_as_many(SMALL):
            for one in machines[::max(1, len(machines) // 40)]:
                for other in machines[::max(1, len(machines) // 40)]:
                    self.check(one, other)

    def test_thrown_pairs(self):
        for machines in read_as_many(THROWN):
            for one, other in zip(machines, machines[1:]):
                self.check(one, other)
                self.check(other, one)

    def test_texts_tried_in_order(self):
        for one, other in zip(read_as_many(SMALL)[1][:800:3], read_as_many(SMALL)[1][100:]):
            parted = [text for text in texts_to(2, 4) if plain_takes(one, text) != plain_takes(other, text)]
            if parted:
                self.assertEqual(parting(one, other), parted[0])

    def test_as_long_as_can_be(self):
        nine = tuple((min(at + 1, 8),) for at in range(9)), (8,)
        self.assertEqual(parting(nine, (((0,),), ())), (1,) * 8)
        self.assertEqual(parting((((1,), (2,), (0,)), (0,)), (((1,), (2,), (3,), (0,)), (0,))), (1,) * 3)
        self.assertEqual(parting(
            (((1,), (2,), (3,), (4,), (0,)), (0, 1, 2, 3)), (((1,), (2,), (3,), (3,)), (0, 1, 2, 3))), (1,) * 4)

    def test_alike_ones_can_not_be_parted(self):
        dice = Dice(5)
        for machine in THROWN[:80]:
            self.assertRaises(CanNot, parting, machine, machine)
            self.assertRaises(CanNot, parting, machine, blown_up(dice, machine, 10))
        with self.assertRaises(CanNot) as caught:
            parting(FAT, least(FAT))
        self.assertEqual(vars(caught.exception), {})


class UnlikeWide(unittest.TestCase):
    def test_unfit_in_each_direction(self):
        dice = Dice(6)
        for one_wide in (1, 2, 3):
            for other_wide in (1, 2, 3):
                one = thrown_machine(dice, 1 + dice.below(8), one_wide)
                other = thrown_machine(dice, 1 + dice.below(8), other_wide)
                calls = [(alike, one, other), (parting, one, other)] + [(joined, one, other, own) for own in WORDS]
                for function, *given in calls:
                    if one_wide != other_wide:
                        with self.assertRaises(Unfit) as caught:
                            function(*given)
                        self.assertEqual(vars(caught.exception), {})
                    elif function is not parting:
                        function(*given)

    def test_unfit_ahead_of_all_that_can_not_be(self):
        none, all_of_three = (((0,),), ()), (((0, 0, 0),), ())
        self.assertRaises(Unfit, parting, none, all_of_three)
        self.assertRaises(Unfit, parting, all_of_three, none)
        self.assertRaises(Unfit, parting, NONE, none)
        self.assertRaises(Unfit, alike, NONE, none)


class Things(unittest.TestCase):
    GOOD = (ODD, LAST, (((0,),), ()), (((0,),), (0,)), (((1, 0, 1), (0, 1, 0)), (0, 1)), (((1,), (2,), (0,)), (0, 2)))

    def check(self, thing):
        self.assertIs(is_machine(thing), is_plain_machine(thing), thing)

    def test_machines(self):
        for machine in SMALL[::5] + THROWN + [own for _, own, _ in KNOWN]:
            self.assertIs(is_machine(machine), True)

    def test_things_of_every_kind(self):
        for thing in ODD_THINGS:
            self.check(thing)
            self.check((thing, ()))
            self.check((thing, thing))
            self.check((((0,),), thing))
            self.check(((thing,), ()))
            self.check((((0,), thing), ()))
            self.check(((thing, (0,)), ()))
            self.check((((thing,),), ()))

    def test_good_ones_with_one_value_of_another_kind(self):
        for good in self.GOOD:
            self.assertIs(is_machine(good), True)
            for thing in [*swapped(good, ODD_THINGS), *resized(good)]:
                self.check(thing)

    def test_lists_at_each_depth(self):
        for good in self.GOOD:
            for depth in range(3):
                self.assertIs(is_machine(listed(good, lambda own: own == depth)), False)
        self.assertIs(is_machine((([0, 0], (0, 0)), ())), False)
        self.assertIs(is_machine((((0, 0), [0, 0]), ())), False)
        self.assertIs(is_machine((((0, 0),), [])), False)
        self.assertIs(is_machine(([], [])), False)

    def test_true_and_false_are_no_states(self):
        for thing in ((((False,),), ()), (((0,),), (False,)), (((True, 0), (0, 1)), ()), (((1, 0), (0, 1)), (True,)),
                      (((1, 0), (0, 1)), (0, True)), (((1, 0), (0, True)), (1,)), (((1, 0), (0, False)), (1,))):
            self.assertIs(is_machine(thing), False, thing)

    def test_states_that_are_none(self):
        for state in (-1, 2, 3, 10 ** 6000, -10 ** 6000):
            self.assertIs(is_machine((((0, state), (0, 0)), ())), False)
            self.assertIs(is_machine((((0, 0), (state, 0)), ())), False)
            self.assertIs(is_machine((((0, 0), (0, 0)), (state,))), False)
            self.assertIs(is_machine((((0, 0), (0, 0)), (0, state))), False)

    def test_ends_that_do_not_ascend(self):
        steps = ((0, 0),) * 4
        for ends in texts_to(4, 4):
            ends = tuple(own - 1 for own in ends)
            self.assertIs(is_machine((steps, ends)), ends == tuple(sorted(set(ends))), ends)

    def test_wide_is_from_one_to_three(self):
        for wide in range(7):
            for states in (1, 2, 5):
                self.assertIs(is_machine((((0,) * wide,) * states, ())), wide in (1, 2, 3))

    def test_rows_are_equally_long(self):
        for one in range(4):
            for other in range(5):
                self.assertIs(is_machine((((0,) * one, (0,) * other), ())), one == other and one > 0)
        self.assertIs(is_machine((((0, 0),) * 8 + ((0,),), ())), False)

    def test_greater_than_the_bounds(self):
        for states in (9, 60, 5000):
            steps = tuple(((at + 1) % states, 0) for at in range(states))
            ends = tuple(range(0, states, 2))
            self.assertIs(is_machine((steps, ends)), True)
            self.assertIs(is_machine((steps[:-1] + ((0, states),), ends)), False)
            self.assertIs(is_machine((steps, ends + (states,))), False)
            self.assertIs(is_machine((steps, ends + (0,))), False)

    def test_nested_deep(self):
        for depth in (1, 2, 3, 50, 95):
            for kind in (tuple, list):
                for thing in (nested(depth, 0, kind), nested(depth, (), kind), nested(depth, ODD, kind)):
                    self.check(thing)
                    self.check((thing, ()))
                    self.check((((0,),), thing))
                    self.check((((thing, 0), (0, 0)), ()))

    def test_strings(self):
        for thing in ("", "01", ("", ""), (("0",), "0"), ((("0",),), ()), (((0,),), "0"), (((0,),), ("0",)), "machine"):
            self.assertIs(is_machine(thing), False)


if __name__ == "__main__":
    unittest.main()
