"""Chains of marks with sets of letters between them, and the ways in which texts fit them."""

from nextsuch.checks import is_set_in
from nextsuch.errors import CanNot, TooMuch
from nextsuch.search import least_text
from nextsuch.words import is_text

MOST_WAYS = 2000


def is_chain(wide, thing):
    """Whether thing is a CHAIN of letters to wide."""
    if not isinstance(thing, tuple) or len(thing) != 2:
        return False
    sets, marks = thing
    if not isinstance(sets, tuple) or not is_text(wide, marks) or len(sets) != len(marks) + 1:
        return False
    return all([is_set_in(own, 1, wide) for own in sets])


def marks_behind(chain, at, letter):
    """How many marks can be behind one if letter is read with at marks behind: it is in the set there, or a mark."""
    sets, marks = chain
    told = []
    if letter in sets[at]:
        told.append(at)
    if at < len(marks) and marks[at] == letter:
        told.append(at + 1)
    return told


def counts_of_ways(chain, text):
    """For each number of letters read, and of marks behind one there, in how many ways the rest of text fits."""
    many = len(chain[1])
    counts = [[0] * many + [1]]
    for letter in reversed(text):
        behind = counts[-1]
        counts.append([sum([behind[there] for there in marks_behind(chain, at, letter)]) for at in range(many + 1)])
    return counts[::-1]


def ways(chain, text):
    """The list, ascending, of all tuples of places by which text fits chain."""
    counts = counts_of_ways(chain, text)
    if counts[0][0] > MOST_WAYS:
        raise TooMuch()
    told = [()] if counts[0][0] > 0 else []
    for place, letter in enumerate(text, start=1):
        longer = []
        for row in told:
            for there in marks_behind(chain, len(row), letter):
                if counts[place][there] > 0:
                    longer.append(row if there == len(row) else row + (place,))
        told = longer
    return sorted(told)


def fits(chain, text):
    """Whether text fits chain."""
    return counts_of_ways(chain, text)[0][0] > 0


def two_ways_or_none(chain):
    """The least TEXT that fits chain by two unlike tuples of places, None if there is none."""
    many = len(chain[1])

    # Two tuples of places are unlike exactly if some letter is a mark by one of them and none by the other.
    def go_on(own, letter):
        here, there, unlike = own
        return [(one, other, unlike or (one != here) != (other != there))
                for one in marks_behind(chain, here, letter) for other in marks_behind(chain, there, letter)]

    def is_end(own):
        return own == (many, many, True)

    return least_text([(0, 0, False)], go_on, is_end)


def is_single(chain):
    """Whether no TEXT fits chain by two unlike tuples of places."""
    return two_ways_or_none(chain) is None


def two_ways(chain):
    """The least TEXT that fits chain by two unlike tuples of places."""
    text = two_ways_or_none(chain)
    if text is None:
        raise CanNot()
    return text


def meeting(one, other):
    """The least TEXT that fits both."""
    last = len(one[1]), len(other[1])

    def go_on(pair, letter):
        return [(here, there) for here in marks_behind(one, pair[0], letter)
                for there in marks_behind(other, pair[1], letter)]

    def is_end(pair):
        return pair == last

    text = least_text([(0, 0)], go_on, is_end)
    if text is None:
        raise CanNot()
    return text


def narrowed(chain, letters):
    """The CHAIN that has all its sets without other letters than letters."""
    sets, marks = chain
    if not all([mark in letters for mark in marks]):
        raise CanNot()
    return tuple([tuple([own for own in inner if own in letters]) for inner in sets]), tuple(marks)


def chain_mirrored(chain):
    """The CHAIN that the TEXTS turned round fit."""
    sets, marks = chain
    return tuple([tuple(own) for own in reversed(sets)]), tuple(marks[::-1])
