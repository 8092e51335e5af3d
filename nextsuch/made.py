"""Trees made: right for a machine, of one manner or of both, and for what fits chains."""

from nextsuch.chains import chain_mirrored, counts_of_ways, is_single
from nextsuch.doings import own_doings
from nextsuch.errors import CanNot, TooMuch, Unfit
from nextsuch.growing import tree_by, tree_of
from nextsuch.judged import machine_of_chains
from nextsuch.kinds import bar_or_none, is_of
from nextsuch.machines import end_marks, least, mirrored
from nextsuch.parting import asks_rules
from nextsuch.trees import tree_mirrored

MOST_MADE = 24


def made(machine):
    """A TREE right for machine."""
    own = least(machine)
    steps, found = own_doings(own, MOST_MADE)
    if bar_or_none("asks", own, steps, found) is not None:
        raise CanNot()
    marks = end_marks(own)
    rules, number = asks_rules(steps, [int(marks[doing[0]]) for doing in found])
    return tree_by(rules, number, 0)


def groups_left(own, state):
    """For each STATE that a letter leads to from state, without state itself, the list of these letters."""
    groups = {}
    for letter, there in enumerate(own[0][state], start=1):
        if there != state:
            groups.setdefault(there, []).append(letter)
    return groups


def onward_rules(own):
    """The rules of a least MACHINE that never comes back to a STATE that it left: a problem for each STATE."""
    many = len(own[0])
    marks = end_marks(own)
    rules = []
    for state in range(many):
        groups = groups_left(own, state)
        if len(groups) == 0:
            rules.append(("told", int(marks[state])))
        else:
            # What is gone over keeps the STATE, so nothing is to be told of it.
            parted = tuple([(tuple(letters), many, (there,)) for there, letters in groups.items()])
            sought = tuple(sorted([letter for letters in groups.values() for letter in letters]))
            rules.append(("parted", "next", sought, parted, many + int(marks[state])))
    return rules + [("told", 0), ("told", 1)]


def check_of(machine, kind):
    """Raise CanNot unless machine is of kind."""
    if not is_of(machine, kind):
        raise CanNot()


def onward_tree(own):
    """An onward TREE right for own, a least MACHINE that never comes back to a STATE that it left."""
    rules = onward_rules(own)
    return tree_by(rules, 0, max([len(rule[3]) for rule in rules if rule[0] == "parted"] + [0]))


def made_onward(machine):
    """An onward TREE right for machine."""
    check_of(machine, "onward")
    return onward_tree(least(machine))


def made_backward(machine):
    """A backward TREE right for machine."""
    check_of(machine, "backward")
    return tree_mirrored(onward_tree(mirrored(machine)))


def made_coming(machine):
    """A TREE right for machine that asks from the front for single letters, each at most once."""
    check_of(machine, "coming")
    steps, ends = least(machine)
    letters = [letter for letter in range(1, len(steps[0]) + 1)
               if any([row[letter - 1] != state for state, row in enumerate(steps)])]

    def key_at(at, state):
        if all([steps[state][letter - 1] == state for letter in letters[at:]]):
            return "say", at, state
        return "ask", at, state

    def knot_of(key):
        word, at, state = key
        if word == "say":
            return "say", state in ends
        if word == "ask":
            return "ask", 0, "next", (letters[at],), ("order", at, state)
        without = key_at(at + 1, state)
        return "order", at + 2, 1, key_at(at + 1, steps[state][letters[at] - 1]), without, without

    return tree_of(key_at(0, 0), knot_of)


def mask_at(tables, read):
    """The mask of the places at which there are ways in the rows of number read of all tables, one behind the other."""
    counts = [count for table in tables for count in table[read]]
    return sum([1 << at for at, count in enumerate(counts) if count > 0])


def are_surely_many(chains):
    """Whether the TEXTS that fit one of chains are surely those of a MACHINE of more own DOINGS than are made for."""
    # Two beginnings that some rest tells apart have unlike DOINGS. Where the MACHINE would be very great those of the
    # marks are enough to see it, without the MACHINE.
    ahead, behind = {}, []
    for _, marks in chains:
        text = tuple(marks)
        rests = [counts_of_ways(chain, text) for chain in chains]
        beginnings = [[row[::-1] for row in reversed(counts_of_ways(chain_mirrored(chain), text[::-1]))]
                      for chain in chains]
        for read in range(len(text) + 1):
            behind.append(mask_at(rests, read))
            ahead[mask_at(beginnings, read)] = True
    rows = [tuple([mask & other != 0 for other in behind]) for mask in ahead]
    return len(set(rows)) > MOST_MADE


def of_chains(wide, chains):
    """A TREE that answers True just the TEXTS that fit one of chains, all single."""
    if not all([is_single(chain) for chain in chains]):
        raise Unfit()
    if are_surely_many(chains):
        raise TooMuch()
    return made(machine_of_chains(wide, chains))
