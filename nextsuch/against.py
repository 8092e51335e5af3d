"""Texts against any tree: two that it answers alike though a machine takes just one of them."""

from nextsuch.doings import own_doings
from nextsuch.errors import CanNot, Unfit
from nextsuch.kinds import bar_or_none, texts_by
from nextsuch.machines import least, takes, wide_of
from nextsuch.trees import answer, depth, manners
from nextsuch.words import is_text

MANNERS = ("asks", "backward", "onward")


def against(machine, tree):
    """A pair of TEXTS of which machine takes just one, and which tree answers alike."""
    own = least(machine)
    steps, found = own_doings(own)
    for kind in ("asks",) + manners(tree):
        bar = bar_or_none(kind, own, steps, found)
        if bar is not None:
            return texts_by(bar, max(1, depth(tree)))
    raise CanNot()


def is_against(machine, tree, thing):
    """Whether thing is a pair of TEXTS of which machine takes just one, and which tree answers alike."""
    if not isinstance(thing, tuple) or len(thing) != 2 or not all([is_text(wide_of(machine), own) for own in thing]):
        return False
    one, other = thing
    return takes(machine, one) != takes(machine, other) and answer(tree, one) == answer(tree, other)


def walls(bar):
    """The wall of bar for 1, and by how much each further number makes it greater."""
    if bar[0] not in MANNERS:
        raise Unfit()
    first, second = [max([len(text) for text in texts_by(bar, number)]) for number in (1, 2)]
    return first, second - first


def wall(bar, number):
    """How many letters the longer one of the two TEXTS has that bar tells by number, of 1 for 0."""
    first, more = walls(bar)
    return first + more * (max(1, number) - 1)


def asks_needed(bar, size):
    """The least number whose wall is above size."""
    first, more = walls(bar)
    if first > size:
        return 0
    return (size - first) // more + 2
