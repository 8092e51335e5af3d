"""Machines that read letter by letter: the least ones, and what comes of two."""

from nextsuch.checks import is_row_in, is_set_in
from nextsuch.errors import CanNot, TooMuch, Unfit

MOST_LETTERS = 3


def is_machine(thing):
    """Whether thing is a MACHINE."""
    if not isinstance(thing, tuple) or len(thing) != 2:
        return False
    steps, ends = thing
    if not isinstance(steps, tuple) or len(steps) == 0:
        return False
    greatest = len(steps) - 1
    if not all([is_row_in(row, 0, greatest) for row in steps]):
        return False
    wide = len(steps[0])
    if wide < 1 or wide > MOST_LETTERS or not all([len(row) == wide for row in steps]):
        return False
    return is_set_in(ends, 0, greatest)


def wide_of(machine):
    """How many letters machine reads."""
    return len(machine[0][0])


def state_after(machine, text):
    """The STATE to which text leads from STATE 0."""
    steps = machine[0]
    state = 0
    for letter in text:
        state = steps[state][letter - 1]
    return state


def takes(machine, text):
    """Whether machine takes text."""
    return state_after(machine, text) in machine[1]


def explored(wide, start, go_on, most=None):
    """The steps of all that is come to from start, numbered, and the list of what has these numbers.

    go_on(own, letter) tells what is come to from own by letter. Raise TooMuch if more than most are come to.
    """
    # What has a lower number is come to by a lesser TEXT, and the lesser TEXT stays so with one letter more: so
    # numbers are given in the order in which TEXTS, tried from the least on, come to what has them.
    found = [start]
    numbers = {start: 0}
    steps = []
    while len(steps) < len(found):
        row = []
        for letter in range(1, wide + 1):
            there = go_on(found[len(steps)], letter)
            if there not in numbers:
                numbers[there] = len(found)
                found.append(there)
            row.append(numbers[there])
        steps.append(tuple(row))
        if most is not None and len(found) > most:
            raise TooMuch()
    return tuple(steps), found


def texts_from(steps, start):
    """For each STATE that is come to from STATE start the least TEXT that leads there."""
    texts = {start: ()}
    left = [start]
    at = 0
    while at < len(left):
        for letter, there in enumerate(steps[left[at]], start=1):
            if there not in texts:
                texts[there] = texts[left[at]] + (letter,)
                left.append(there)
        at += 1
    return texts


def end_marks(machine):
    """The tuple that tells of each STATE whether it is in ends."""
    marks = [False] * len(machine[0])
    for state in machine[1]:
        marks[state] = True
    return tuple(marks)


def ends_of(marks):
    """The set of the STATES of which marks tells that they are ends."""
    return tuple([state for state, mark in enumerate(marks) if mark])


def trimmed(machine):
    """The MACHINE of the STATES that are come to, numbered as they are first come to."""
    steps, marks = machine[0], end_marks(machine)

    def go_on(state, letter):
        return steps[state][letter - 1]

    kept, found = explored(wide_of(machine), 0, go_on)
    return kept, ends_of([marks[state] for state in found])


def numbered(keys):
    """The list with, for each of keys, its number as it first stands in keys."""
    numbers = {}
    for key in keys:
        if key not in numbers:
            numbers[key] = len(numbers)
    return [numbers[key] for key in keys]


def states_ahead(steps):
    """For each STATE the list of the STATES from which a letter leads to it."""
    ahead = [[] for _ in steps]
    for own, row in enumerate(steps):
        for there in row:
            ahead[there].append(own)
    return ahead


def split_parts(steps, parts, sizes, touched):
    """Part those of touched that go on to unlike parts; the list of those that are of a new part then."""
    groups = {}
    for own in touched:
        groups.setdefault((parts[own],) + tuple([parts[there] for there in steps[own]]), []).append(own)
    moved = []
    # The greatest group comes last: it keeps the part if nothing else is left of it.
    for group in sorted(groups.values(), key=len):
        part = parts[group[0]]
        if len(group) < sizes[part]:
            sizes[part] -= len(group)
            for own in group:
                parts[own] = len(sizes)
            sizes.append(len(group))
            moved.extend(group)
    return moved


def finest_parts(steps, parts):
    """For each STATE the number of its part: of one part are those that no TEXT leads to unlike ones of parts."""
    ahead = states_ahead(steps)
    told = numbered(parts)
    sizes = [0] * len(set(told))
    for part in told:
        sizes[part] += 1
    # Only what goes on to a new part can be parted anew, and it is parted from all that does not.
    touched = list(range(len(steps)))
    while len(touched) > 0:
        moved = split_parts(steps, told, sizes, touched)
        touched = sorted({own for there in moved for own in ahead[there]})
    return numbered(told)


def parts_of(machine):
    """For each STATE the number of its part: of one part are those that are gone on from alike."""
    return finest_parts(machine[0], end_marks(machine))


def merged(machine):
    """The MACHINE in which STATES that are gone on from alike are one, numbered as the first of each."""
    parts = parts_of(machine)
    steps = []
    for part, row in zip(parts, machine[0]):
        if part == len(steps):
            steps.append(tuple([parts[there] for there in row]))
    return tuple(steps), tuple(sorted({parts[state] for state in machine[1]}))


def least(machine):
    """The least MACHINE alike to machine."""
    # A part is first come to where the first of its STATES is, so merged keeps the order that trimmed made.
    return merged(trimmed(machine))


def check_alike_wide(one, other):
    """Raise Unfit unless both MACHINES read as many letters."""
    if wide_of(one) != wide_of(other):
        raise Unfit()


def alike(one, other):
    """Whether both MACHINES take the same TEXTS."""
    check_alike_wide(one, other)
    return least(one) == least(other)


def told_of_two(one, other, word):
    """What word tells of two answers, each True or False."""
    if word == "both":
        return one and other
    if word == "either":
        return one or other
    return one != other


def joined(one, other, word):
    """The least MACHINE that takes what both take, one at least takes, or just one takes, as word says."""
    check_alike_wide(one, other)
    first, second = least(one), least(other)

    def go_on(pair, letter):
        return first[0][pair[0]][letter - 1], second[0][pair[1]][letter - 1]

    steps, found = explored(wide_of(one), (0, 0), go_on)
    first_marks, second_marks = end_marks(first), end_marks(second)
    marks = [told_of_two(first_marks[here], second_marks[there], word) for here, there in found]
    return least((steps, ends_of(marks)))


def contrary(machine):
    """The least MACHINE that takes the other TEXTS."""
    # With the other ends no two STATES are gone on from alike, either: this MACHINE is least, too.
    own = least(machine)
    return own[0], ends_of([not mark for mark in end_marks(own)])


def mirrored(machine):
    """The least MACHINE that takes the TEXTS that machine takes, each turned round."""
    own = least(machine)
    steps = own[0]

    # Of a TEXT that is read from behind only the last letters are known, not the STATE to which those ahead of them
    # lead: so marks tell of each STATE whether they lead from it to an end.
    def go_on(marks, letter):
        return tuple([marks[row[letter - 1]] for row in steps])

    # Unlike marks differ at some STATE. A TEXT that leads to it is, turned round, taken from just one of them: so no
    # two are gone on from alike, and what is explored is least.
    turned_steps, found = explored(wide_of(machine), end_marks(own), go_on)
    return turned_steps, ends_of([kept[0] for kept in found])


def first_taken(machine):
    """The least TEXT that machine takes."""
    steps, ends = least(machine)
    if len(ends) == 0:
        raise CanNot()
    # STATES are numbered as they are first come to, so the lowest end is the one that the least TEXT comes to.
    return texts_from(steps, 0)[ends[0]]


def leader_of(leaders, own):
    """The one that stands for all that are one with own."""
    while leaders[own] != own:
        leaders[own] = leaders[leaders[own]]
        own = leaders[own]
    return own


def parting_from(one, here, other, there):
    """The least TEXT that leads just one of STATE here of one and STATE there of other to an end, None without."""
    first_marks, second_marks = end_marks(one), end_marks(other)
    behind = len(first_marks)
    leaders = list(range(behind + len(second_marks)))
    pairs = [(here, there, ())]
    at = 0
    while at < len(pairs):
        here, there, text = pairs[at]
        if first_marks[here] != second_marks[there]:
            return text
        for letter, (near, far) in enumerate(zip(one[0][here], other[0][there]), start=1):
            # Two STATES that pairs ahead of them join are parted by no TEXT that does not part one of those pairs,
            # and these are come to by lesser TEXTS: so they need not be tried.
            near_leader, far_leader = leader_of(leaders, near), leader_of(leaders, behind + far)
            if near_leader != far_leader:
                leaders[far_leader] = near_leader
                pairs.append((near, far, text + (letter,)))
        at += 1
    return None


def parting(one, other):
    """The least TEXT that just one of both MACHINES takes."""
    check_alike_wide(one, other)
    text = parting_from(one, 0, other, 0)
    if text is None:
        raise CanNot()
    return text
