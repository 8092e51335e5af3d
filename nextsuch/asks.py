"""Single asks of an index, and places named by a row of asks."""

from nextsuch.checks import is_number
from nextsuch.words import check_place, is_letters, last_place, next_place


def is_side(thing):
    """Whether thing is a side."""
    return thing == "next" or thing == "last"


def is_ask(wide, thing):
    """Whether thing is an ASK, its letters those to wide, its spot any number from 0."""
    if not isinstance(thing, tuple) or len(thing) != 3:
        return False
    spot, side, letters = thing
    return is_number(spot) and spot >= 0 and is_side(side) and is_letters(wide, letters)


def is_named_pair(wide, thing):
    """Whether thing is a pair of a side and LETTERS."""
    return isinstance(thing, tuple) and len(thing) == 2 and is_side(thing[0]) and is_letters(wide, thing[1])


def is_naming(wide, thing):
    """Whether thing is a NAMING, its letters those to wide."""
    return isinstance(thing, tuple) and len(thing) > 0 and all([is_named_pair(wide, own) for own in thing])


def found(text, place, side, letters):
    """The place or end that an ASK finds that asks from place."""
    if side == "next":
        return next_place(text, place, letters)
    return last_place(text, place, letters)


def row_named(text, naming):
    """The tuple of what the pairs of naming find, one by one."""
    place = 0 if naming[0][0] == "next" else len(text) + 1
    row = []
    for side, letters in naming:
        place = found(text, place, side, letters)
        row.append(place)
    return tuple(row)


def named(text, naming):
    """The place or end that naming names."""
    return row_named(text, naming)[-1]


def stands_at(text, place):
    """The letter at place, "front" or "back" at an end."""
    check_place(text, place)
    if place == 0:
        return "front"
    if place == len(text) + 1:
        return "back"
    return text[place - 1]


def other_side(side):
    """The side that is not side."""
    return "last" if side == "next" else "next"


def turned(naming):
    """The NAMING that names, in the text turned round, the same from the other end."""
    return tuple([(other_side(side), tuple(letters)) for side, letters in naming])
