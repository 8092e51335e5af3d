"""How stretches of a text are parted, so that ASKS tell what they do: rules for trees, of machines of KIND "asks".

A problem is a pair (letters, labels): what a stretch of these letters does is one of the own DOINGS made of them, and
labels has, in order of their numbers, a label for each.
"""

from nextsuch.classes import letters_kept, parts_to_and_fro
from nextsuch.doings import steps_ahead
from nextsuch.machines import explored, numbered


class Parting:
    """The rules of problems of the own DOINGS of steps, the problems numbered as their rules are known."""

    def __init__(self, steps):
        self.steps = steps
        self.ahead = steps_ahead(steps)
        self.rules = []
        self.weights = []
        self.numbers = {}

    def number_of(self, letters, labels):
        """The number of a problem, the rule of which is known then."""
        # A problem is parted into such of fewer letters, and into such that lead back to it by no more letters: so
        # this comes to an end.
        key = letters, labels
        if key not in self.numbers:
            weight, rule = self.lightest(letters, labels)
            self.numbers[key] = len(self.rules)
            self.rules.append(rule)
            self.weights.append(weight)
        return self.numbers[key]

    def lightest(self, letters, labels):
        """The rule of a problem that makes the fewest knots, and about how many, ahead of it."""
        if labels == labels[:1] * len(labels):
            return 0, ("told", labels[0])
        onward, backward = self.weighed(letters, labels, "next"), self.weighed(letters, labels, "last")
        # From both ends no letter leads out only where all labels are one.
        if backward is None or (onward is not None and onward[0] <= backward[0]):
            return onward
        return backward

    def weighed(self, letters, labels, side):
        """The rule that seeks on side, and its weight ahead of it; None if no letter leads out."""
        steps, quotients = self.quotients(letters, labels, side)
        kept = tuple([letters[at - 1] for at in letters_kept(steps, parts_to_and_fro(steps), 0)])
        if kept == letters:
            return None
        places = {own: at for at, own in enumerate(self.made_of(letters))}
        inner = self.made_of(kept)
        none = self.number_of(kept, tuple([labels[places[own]] for own in inner]))
        groups = []
        for row, found in self.rows_found(letters, kept, steps, side).items():
            told = numbered(row)
            rests = [self.number_of(letters, quotients[own]) for at, own in enumerate(row) if own not in row[:at]]
            groups.append((tuple(found), self.number_of(kept, tuple(told)), tuple(rests)))
        weight = self.weights[none] + 2 * len(groups)
        for _, within, rests in groups:
            weight = weight + self.weights[within] + sum([self.weights[rest] for rest in rests])
        sought = tuple([letter for letter in letters if letter not in kept])
        return weight, ("parted", side, sought, tuple(groups), none)

    def made_of(self, letters):
        """The numbers, ascending, of the DOINGS of the TEXTS of letters alone."""
        told = {0: True}
        left = [0]
        while len(left) > 0:
            own = left.pop()
            for letter in letters:
                there = self.steps[own][letter - 1]
                if there not in told:
                    told[there] = True
                    left.append(there)
        return tuple(sorted(told))

    def quotients(self, letters, labels, side):
        """All labels that are left behind TEXTS read from that end on, numbered from 0, and how letters lead on."""
        inner = self.made_of(letters)
        places = {own: at for at, own in enumerate(inner)}
        # What is read from the front stands ahead of the DOING of what is left, from the back behind it.
        longer = self.ahead if side == "next" else self.steps

        def go_on(told, at):
            return tuple([told[places[longer[own][letters[at - 1] - 1]]] for own in inner])

        return explored(len(letters), labels, go_on)

    def rows_found(self, letters, kept, steps, side):
        """For each row of numbers of quotients the letters, none of kept, at which it is so.

        A row has, for each DOING of kept letters, what is left if a stretch of it and that letter have been read.
        """
        longer = self.steps if side == "next" else self.ahead
        behind = {0: 0}
        left = [0]
        while len(left) > 0:
            own = left.pop()
            for letter in kept:
                there = longer[own][letter - 1]
                if there not in behind:
                    behind[there] = steps[behind[own]][letters.index(letter)]
                    left.append(there)
        rows = {}
        for at, letter in enumerate(letters):
            if letter not in kept:
                row = tuple([steps[behind[own]][at] for own in sorted(behind)])
                rows.setdefault(row, []).append(letter)
        return rows


def asks_rules(steps, labels):
    """The rules for the own DOINGS of steps, of KIND "asks", and the number of the problem of all TEXTS."""
    parting = Parting(steps)
    number = parting.number_of(tuple(range(1, len(steps[0]) + 1)), tuple(labels))
    return parting.rules, number
