"""Single changes of a text: which asks of a run they touch, and which of them can turn what a tree answers."""

from nextsuch.trees import answer, gone_through
from nextsuch.words import changed, check_place


def knots_asked(tree, text):
    """The list of the knots of the ASKS of the run, and the list of the spots at last."""
    way, spots = gone_through(tree, text)
    return [tree[own] for own in way if tree[own][0] == "ask"], spots


def gone_over(tree, text):
    """The tuple with, for each ASK of the run, (side, near, far, letters): from near it found far."""
    knots, spots = knots_asked(tree, text)
    return tuple([(knot[2], spots[knot[1]], far, tuple(knot[3])) for knot, far in zip(knots, spots[2:])])


def touches(ask, change):
    """Whether change touches ask, one that gone_over tells."""
    _, near, far, letters = ask
    word, place = change[0], change[1]
    low, high = min(near, far), max(near, far)
    if word == "put":
        return change[2] in letters and low < place and place <= high
    if word == "drop":
        return place == far
    if place == far:
        return change[2] not in letters
    return change[2] in letters and low < place and place < high


def touched_by(tree, text, change):
    """The set of the numbers of the ASKS that change touches."""
    changed(text, change)
    return tuple([number for number, ask in enumerate(gone_over(tree, text)) if touches(ask, change)])


def asked_again(tree, text, change):
    """The set of the numbers of those that change touches, or that are asked from a spot found by one asked again."""
    told = list(touched_by(tree, text, change))
    knots, _ = knots_asked(tree, text)
    for number, knot in enumerate(knots):
        # Number k finds spot k + 2.
        if number not in told and knot[1] - 2 in told:
            told.append(number)
    return tuple(sorted(told))


def all_changes(wide, text):
    """The set of all CHANGES of text, their letters to wide."""
    letters = range(1, wide + 1)
    places = range(1, len(text) + 1)
    drops = [("drop", place) for place in places]
    puts = [("put", place, letter) for place in range(1, len(text) + 2) for letter in letters]
    turns = [("turn", place, letter) for place in places for letter in letters]
    return drops + puts + turns


def can_turn(wide, tree, text):
    """The set of all CHANGES of text that touch an ASK of the run."""
    asks = gone_over(tree, text)
    return tuple([change for change in all_changes(wide, text) if any([touches(ask, change) for ask in asks])])


def turning(wide, tree, text):
    """The set of those of can_turn behind which tree answers otherwise."""
    yes = answer(tree, text)
    return tuple([change for change in can_turn(wide, tree, text) if answer(tree, changed(text, change)) != yes])


def place_behind(text, change, place):
    """Where that lies behind change which is at place, None if it is dropped."""
    check_place(text, place)
    changed(text, change)
    word, there = change[0], change[1]
    if word == "put" and there <= place:
        return place + 1
    if word == "drop" and there == place:
        return None
    if word == "drop" and there < place:
        return place - 1
    return place
