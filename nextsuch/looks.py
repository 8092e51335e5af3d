"""Look trees: letters looked at by numbers from both ends, made for machines and judged against them."""

from math import lcm

from nextsuch.asks import is_side
from nextsuch.checks import is_number, is_row_in
from nextsuch.doings import own_doings, span_of, steps_ahead, with_one_more
from nextsuch.errors import CanNot, TooMuch
from nextsuch.kinds import bar_or_none
from nextsuch.lookways import count_of_ways, leads_of_look, least_wrong, place_looked_at
from nextsuch.machines import end_marks, least

MOST_LOOK_WAYS = 5000
MOST_MULTIPLE = 60


def is_look_knot(wide, thing, own, many):
    """Whether thing can be knot number own of so many."""
    if not isinstance(thing, tuple) or len(thing) == 0:
        return False
    if thing[0] == "say":
        return len(thing) == 2 and isinstance(thing[1], bool)
    if thing[0] == "length":
        return len(thing) == 2 and is_row_in(thing[1], own + 1, many - 1) and len(thing[1]) > 0
    if thing[0] == "look" and len(thing) == 4:
        _, side, number, leads = thing
        return (is_side(side) and is_number(number) and number >= 0 and is_row_in(leads, own + 1, many - 1)
                and len(leads) == wide + 1)
    return False


def is_look_tree(wide, thing):
    """Whether thing is a LOOK TREE of letters to wide."""
    if not isinstance(thing, tuple) or len(thing) == 0:
        return False
    if not all([is_look_knot(wide, knot, own, len(thing)) for own, knot in enumerate(thing)]):
        return False
    come_to = {there: True for knot in thing for there in leads_of_look(knot)}
    return all([own in come_to for own in range(1, len(thing))])


def look(tree, text):
    """The yes that tree answers."""
    knot = tree[0]
    while knot[0] != "say":
        leads = leads_of_look(knot)
        if knot[0] == "length":
            knot = tree[leads[len(text) % len(leads)]]
        else:
            place = place_looked_at(knot, len(text))
            knot = tree[leads[0 if place is None else text[place - 1]]]
    return knot[1]


def looks_most(tree):
    """The most looks on a way."""
    most = [0] * len(tree)
    for own in reversed(range(len(tree))):
        behind = [most[there] for there in leads_of_look(tree[own])]
        most[own] = max(behind + [0]) + int(tree[own][0] == "look")
    return most[0]


class Looker:
    """Knots of a LOOK TREE that is made: those gone on to first, each but once."""

    def __init__(self):
        self.knots = []
        self.numbers = {}

    def put(self, knot):
        """The number of what does as knot does: of the one knot behind it if it goes on to just one."""
        leads = leads_of_look(knot)
        if len(leads) > 0 and leads == leads[:1] * len(leads):
            return leads[0]
        if knot not in self.numbers:
            self.numbers[knot] = len(self.knots)
            self.knots.append(knot)
        return self.numbers[knot]

    def begun_at(self, start):
        """The LOOK TREE that is begun at knot start."""
        kept = {start: True}
        for own in range(start, -1, -1):
            if own in kept:
                kept.update({there: True for there in leads_of_look(self.knots[own])})
        order = sorted(kept, reverse=True)
        numbers = {own: at for at, own in enumerate(order)}
        tree = []
        for own in order:
            knot = self.knots[own]
            leads = tuple([numbers[there] for there in leads_of_look(knot)])
            tree.append(knot if knot[0] == "say" else knot[:-1] + (leads,))
        return tuple(tree)

def layers_of(start, go_on, many):
    """The list of what is come to from start by no letter, by one letter, .., by so many."""
    layers = [(start,)]
    for _ in range(many):
        layers.append(go_on(layers[-1]))
    return layers


def back_looks(looker, doings, says, size):
    """For each STATE the knot that looks at the last size letters, from the last one on, and says what they lead to.

    doings is a pair of the steps of the own DOINGS and the list of them.
    """
    steps, found = doings
    ahead = steps_ahead(steps)
    layers = layers_of(0, lambda layer: with_one_more(steps, layer), size)
    starts = []
    for state in range(len(says)):
        told = {own: says[found[own][state]] for own in layers[size]}
        for number in reversed(range(size)):
            fresh = {}
            for own in layers[number]:
                leads = tuple([told[there] for there in ahead[own]])
                # The TEXT is never so short that the first one is gone on to.
                fresh[own] = looker.put(("look", "last", number, leads[:1] + leads))
            told = fresh
        starts.append(told[0])
    return starts


def front_looks(looker, steps, says, backs, sizes):
    """The knot that looks at the first letters of the TEXTS of that many more letters than a multiple of the span.

    sizes is a pair of the span and of how many more they are, fewer than the span.
    """
    span, more = sizes
    layers = layers_of(0, lambda layer: with_one_more(steps, layer), span + more)
    # What a TEXT of a span does it does twice over, too: so these letters and the last ones of a span tell all, also
    # where some of them are the same.
    told = {state: backs[state] for state in layers[span + more]}
    for number in reversed(range(span + more)):
        fresh = {}
        for state in layers[number]:
            leads = tuple([told[there] for there in steps[state]])
            ended = says[state] if number == more else leads[0]
            fresh[state] = looker.put(("look", "next", number, (ended,) + leads))
        told = fresh
    return told[0]


def made_looks(machine):
    """A LOOK TREE that answers each TEXT as machine does."""
    own = least(machine)
    steps, found = own_doings(own)
    if bar_or_none("looks", own, steps, found) is not None:
        raise CanNot()
    size = span_of(steps)
    looker = Looker()
    says = [looker.put(("say", mark)) for mark in end_marks(own)]
    backs = back_looks(looker, (steps, found), says, size)
    fronts = [front_looks(looker, own[0], says, backs, (size, more)) for more in range(size)]
    return looker.begun_at(looker.put(("length", tuple(fronts))))


def looked_to(tree, side):
    """One more than the greatest number of the looks on side, 0 without any."""
    return max([knot[2] + 1 for knot in tree if knot[0] == "look" and knot[1] == side] + [0])


def looks_wrong_or_none(machine, tree):
    """The least TEXT that tree answers otherwise than machine, None if there is none."""
    own = least(machine)
    span = span_of(own_doings(own)[0])
    if count_of_ways(tree) > MOST_LOOK_WAYS:
        raise TooMuch()
    multiple = span
    for knot in tree:
        if knot[0] == "length":
            multiple = lcm(multiple, len(knot[1]))
    if multiple > MOST_MULTIPLE:
        raise TooMuch()
    # Of longer TEXTS a multiple of letters can go, behind those looked at from the front, and both tell the same.
    return least_wrong(own, tree, looked_to(tree, "next") + looked_to(tree, "last") + span + multiple)


def looks_wrong(machine, tree):
    """The least TEXT that tree answers otherwise than machine."""
    text = looks_wrong_or_none(machine, tree)
    if text is None:
        raise CanNot()
    return text


def looks_right(machine, tree):
    """Whether tree answers each TEXT as machine does."""
    return looks_wrong_or_none(machine, tree) is None


def exchanged(bar, number):
    """The list of the TEXTS of number blocks of bar, one of them, neither the first nor the last, exchanged."""
    ahead, near, far, behind = [tuple(own) for own in bar[1:]]
    return [ahead + near * at + far + near * (number - at - 1) + behind for at in range(1, number - 1)]


def looks_against(bar, tree):
    """A pair of TEXTS, one of exchanged and that without an exchange, that tree answers alike."""
    ahead, near, _, behind = [tuple(own) for own in bar[1:]]
    # There are more blocks that may be exchanged than looks, so one is not looked at.
    number = looks_most(tree) + 3
    one = ahead + near * number + behind
    return one, [other for other in exchanged(bar, number) if look(tree, other) == look(tree, one)][0]
