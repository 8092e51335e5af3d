"""Trees unfolded to chains: what a run finds, told by marks, and which knots are come to."""

from nextsuch.asks import found
from nextsuch.errors import TooMuch
from nextsuch.trees import leads_of, renewed, shared, spots_of, which_way

MOST_ROWS = 2000


def first_layout(wide):
    """The layout without marks: the sets, the marks, and for each spot, 0 and 1 first, the mark or end it is at."""
    return (tuple(range(1, wide + 1)),), (), (0, 1)


def cleared(sets, near, far, letters):
    """The sets, without letters those between mark near and mark far."""
    low, high = min(near, far), max(near, far)
    return tuple([tuple([letter for letter in own if letter not in letters]) if low <= at and at < high else own
                  for at, own in enumerate(sets)])


def with_found(layout, near, far, letters):
    """The layout behind an ASK from mark near that finds mark far, or the end that far is."""
    sets, marks, where = layout
    return cleared(sets, near, far, letters), marks, where + (far,)


def with_new(layout, near, at, letters, letter):
    """The layout behind an ASK from mark near that finds a letter in set number at: a mark anew."""
    sets, marks, where = layout
    parted = sets[:at + 1] + sets[at:]
    # The new mark is number at + 1; what lies on its far side keeps its letters.
    if near > at:
        parted = cleared(parted, at + 1, near + 1, letters)
    else:
        parted = cleared(parted, near, at + 1, letters)
    moved = tuple([own + 1 if own > at else own for own in where])
    return parted, marks[:at] + (letter,) + marks[at:], moved + (at + 1,)


def far_end(marks, near, side, letters):
    """The first mark with one of letters on this side of mark near, or the end."""
    if side == "next":
        far = near + 1
        while far <= len(marks) and marks[far - 1] not in letters:
            far += 1
        return min(far, len(marks) + 1)
    far = near - 1
    while far > 0 and marks[far - 1] not in letters:
        far -= 1
    return max(far, 0)


def layouts_behind(layout, knot):
    """The list of all layouts that come of layout by the ASK of knot."""
    sets, marks, where = layout
    near, side, letters = where[knot[1]], knot[2], knot[3]
    far = far_end(marks, near, side, letters)
    layouts = [with_found(layout, near, far, letters)]
    for at in range(min(near, far), max(near, far)):
        for letter in sets[at]:
            if letter in letters:
                layouts.append(with_new(layout, near, at, letters, letter))
    return layouts


def walks(wide, tree):
    """The list of all ways to a "say": each layout that comes to one, and the list of its steps.

    A step is a pair of a knot and of which of the knots that it leads to is gone on to.
    """
    told = []
    left = [(first_layout(wide), [], 0)]
    while len(left) > 0:
        layout, steps, own = left.pop()
        knot = tree[own]
        if knot[0] == "say":
            told.append((layout, steps + [(own, 0)]))
        elif knot[0] == "ask":
            left.extend([(there, steps + [(own, 0)], knot[4]) for there in layouts_behind(layout, knot)])
        else:
            at = which_way(layout[2][knot[1]], layout[2][knot[2]])
            left.append((layout, steps + [(own, at)], leads_of(knot)[at]))
        # Each layout is one of some TEXT, and no TEXT has two: so what is left comes to as many ROWS at least.
        if len(told) + len(left) > MOST_ROWS:
            raise TooMuch()
    return told


def row_of(layout, yes):
    """The ROW of a layout that comes to a "say"."""
    sets, marks, where = layout
    return (sets, marks), yes, where


def unfolded(wide, tree):
    """The list, ascending, of the ROWS."""
    return sorted([row_of(layout, tree[steps[-1][0]][1]) for layout, steps in walks(wide, tree)])


def chain_of(wide, tree, text):
    """The ROW the CHAIN of which text fits."""
    layout, places = first_layout(wide), [0, len(text) + 1]
    knot = tree[0]
    while knot[0] != "say":
        where = layout[2]
        if knot[0] == "ask":
            near = where[knot[1]]
            place = found(text, places[near], knot[2], knot[3])
            if place in places:
                layout = with_found(layout, near, places.index(place), knot[3])
            else:
                at = len([own for own in places if own < place]) - 1
                layout = with_new(layout, near, at, knot[3], text[place - 1])
                places = places[:at + 1] + [place] + places[at + 1:]
            knot = tree[knot[4]]
        else:
            knot = tree[leads_of(knot)[which_way(where[knot[1]], where[knot[2]])]]
    return row_of(layout, knot[1])


def reached(wide, tree):
    """The set of the knots to which some TEXTS come."""
    return tuple(sorted({own for layout, steps in walks(wide, tree) for own, at in steps}))


def ways_taken(wide, tree):
    """For each knot to which TEXTS come the set of which of the knots that it leads to they go on to."""
    taken = {}
    for own, at in sorted({step for layout, steps in walks(wide, tree) for step in steps}):
        taken.setdefault(own, []).append(at)
    return taken


def cleaned_once(wide, tree):
    """The TREE, shared, without the knots that no TEXT comes to, and the orders that all TEXTS leave by one way."""
    taken = ways_taken(wide, tree)
    kept, instead = [], {}
    for own in sorted(taken, reverse=True):
        leads = leads_of(tree[own])
        if tree[own][0] == "order" and len({leads[at] for at in taken[own]}) == 1:
            instead[own] = instead[leads[taken[own][0]]]
        else:
            instead[own] = own
            kept.append(own)
    kept = kept[::-1]
    numbers = {own: at for at, own in enumerate(kept)}
    knots = []
    for own in kept:
        leads = leads_of(tree[own])
        ways = [at if at in taken[own] else taken[own][0] for at in range(len(leads))]
        knots.append(renewed(tree[own], spots_of(tree[own]), [numbers[instead[leads[at]]] for at in ways]))
    return shared(knots)


def cleaned(wide, tree):
    """The TREE, shared, that comes if this is done as long as knots get fewer."""
    told = cleaned_once(wide, tree)
    many = len(tree)
    while len(told) < many:
        many = len(told)
        told = cleaned_once(wide, told)
    return told
