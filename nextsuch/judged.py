"""Trees judged for all texts: against a machine, and against each other."""

from nextsuch.chains import marks_behind
from nextsuch.machines import ends_of, explored, joined, least, parting, wide_of
from nextsuch.readers import reader_of


def machine_of(wide, tree):
    """The least MACHINE that takes the TEXTS which tree answers True."""
    # A reader is least, and numbered as its states are first come to: so is the MACHINE.
    states = reader_of(wide, tree)[2]
    steps = tuple([tuple([move[0] for move in moves]) for _, _, moves in states])
    return steps, ends_of([is_taking for _, is_taking, _ in states])


def machine_of_chain(wide, chain):
    """The least MACHINE that takes the TEXTS which fit chain."""
    def go_on(counts, letter):
        return tuple(sorted({there for at in counts for there in marks_behind(chain, at, letter)}))

    steps, found = explored(wide, (0,), go_on)
    return least((steps, ends_of([len(chain[1]) in counts for counts in found])))


def machine_of_chains(wide, chains):
    """The least MACHINE that takes the TEXTS which fit one of chains."""
    told = (((0,) * wide,), ())
    for chain in chains:
        told = joined(told, machine_of_chain(wide, chain), "either")
    return told


def is_right(machine, tree):
    """Whether tree is right for machine."""
    return machine_of(wide_of(machine), tree) == least(machine)


def wrong(machine, tree):
    """The least TEXT that tree answers True though machine does not take it, or False though it does."""
    return parting(machine, machine_of(wide_of(machine), tree))


def are_alike(wide, one, other):
    """Whether both answer each TEXT alike."""
    return machine_of(wide, one) == machine_of(wide, other)


def unlike(wide, one, other):
    """The least TEXT that they answer unlike."""
    return parting(machine_of(wide, one), machine_of(wide, other))
