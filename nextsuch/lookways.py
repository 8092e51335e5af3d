"""The ways through a look tree, and the texts of a length that go them though a machine tells otherwise.

Sets of states are told by masks: state number n is the bit 1 << n.
"""


def leads_of_look(knot):
    """The knots gone on to from knot, in the order of its numbers."""
    if knot[0] == "say":
        return ()
    return tuple(knot[-1])


def count_of_ways(tree):
    """How many ways lead from knot 0 to a "say", each place in trees told apart."""
    counts = [1] * len(tree)
    for own in reversed(range(len(tree))):
        if tree[own][0] != "say":
            counts[own] = sum([counts[there] for there in leads_of_look(tree[own])])
    return counts[0]


def said_alone(tree):
    """For each knot the yes that all behind it say, None if they say both."""
    told = [None] * len(tree)
    for own in reversed(range(len(tree))):
        if tree[own][0] == "say":
            told[own] = tree[own][1]
        else:
            first, *others = [told[there] for there in leads_of_look(tree[own])]
            told[own] = first if all([other == first for other in others]) else None
    return told


def place_looked_at(knot, size):
    """The place of a TEXT of size letters at which knot looks, None if it has too few letters."""
    side, number = knot[1], knot[2]
    if size <= number:
        return None
    return number + 1 if side == "next" else size - number


def knots_behind(knot, letters, size):
    """The list of all knots to which TEXTS of size with these letters, by place, go on, and their letters then."""
    leads = leads_of_look(knot)
    if knot[0] == "length":
        return [(leads[size % len(leads)], letters)]
    place = place_looked_at(knot, size)
    if place is None:
        return [(leads[0], letters)]
    if place in letters:
        return [(leads[letters[place]], letters)]
    if leads[1:] == leads[1:2] * (len(leads) - 1):
        return [(leads[1], letters)]
    told = []
    for letter in range(1, len(leads)):
        further = dict(letters)
        further[place] = letter
        told.append((leads[letter], further))
    return told


def ways_of_size(tree, size):
    """The list of all ways of TEXTS of size letters: for each the letters at the places looked at, and the yes."""
    alone = said_alone(tree)
    told = []
    left = [(0, {})]
    while len(left) > 0:
        own, letters = left.pop()
        if alone[own] is None:
            left.extend(knots_behind(tree[own], letters, size))
        else:
            told.append((letters, alone[own]))
    return told


class Reading:
    """What a machine does with TEXTS of which some letters are known, by the masks of the STATES it may be in."""

    def __init__(self, machine):
        self.steps = machine[0]
        self.ends = sum([1 << state for state in machine[1]])
        self.all_letters = tuple(range(1, len(machine[0][0]) + 1))
        self.masks = {}
        self.runs = {}

    def gone_on(self, mask, letters):
        """The mask of the STATES to which one of letters leads from those of mask."""
        key = mask, letters
        if key not in self.masks:
            told = 0
            for state, row in enumerate(self.steps):
                if mask >> state & 1 == 1:
                    for letter in letters:
                        told = told | 1 << row[letter - 1]
            self.masks[key] = told
        return self.masks[key]

    def run_on(self, mask, many):
        """The mask of the STATES to which so many letters, of whatever kind, lead from those of mask."""
        row = self.runs.setdefault(mask, [mask])
        while len(row) <= many:
            row.append(self.gone_on(row[-1], self.all_letters))
        return row[many]

    def can_differ(self, letters, yes, size):
        """Whether of some TEXT of size letters, these, by place, among them, the machine does not tell yes."""
        mask, read = 1, 0
        for place in sorted(letters):
            mask = self.gone_on(self.run_on(mask, place - 1 - read), (letters[place],))
            read = place
        mask = self.run_on(mask, size - read)
        return mask & ~self.ends != 0 if yes else mask & self.ends != 0

    def least_differing(self, letters, yes, size):
        """The least such TEXT; there is one."""
        choices = [(letters[place],) if place in letters else self.all_letters for place in range(1, size + 1)]
        # For each number of letters read, the last one first, from which STATES the others can lead to what differs.
        kept = [[(self.ends >> state & 1 == 1) != yes for state in range(len(self.steps))]]
        for choice in reversed(choices):
            kept.append([any([kept[-1][row[letter - 1]] for letter in choice]) for row in self.steps])
        text, state = [], 0
        for at, choice in enumerate(choices):
            behind = kept[size - at - 1]
            text.append([letter for letter in choice if behind[self.steps[state][letter - 1]]][0])
            state = self.steps[state][text[-1] - 1]
        return tuple(text)


def least_wrong(machine, tree, sizes):
    """The least TEXT, of a number of letters below sizes, of which machine does not tell what tree does, or None."""
    reading = Reading(machine)
    for size in range(sizes):
        wrong = [reading.least_differing(letters, yes, size) for letters, yes in ways_of_size(tree, size)
                 if reading.can_differ(letters, yes, size)]
        if len(wrong) > 0:
            return min(wrong)
    return None
