"""Texts: their places, what stands at them, and single changes."""

from nextsuch.checks import is_number, is_number_in, is_row_in, is_set_in
from nextsuch.errors import NoPlace


def is_text(wide, thing):
    """Whether thing is a TEXT of letters to wide."""
    return is_row_in(thing, 1, wide)


def is_letters(wide, thing):
    """Whether thing is a set of letters to wide, not ()."""
    return is_set_in(thing, 1, wide) and len(thing) > 0


def is_change(wide, thing):
    """Whether thing is a CHANGE, its letter, if it has one, to wide."""
    if not isinstance(thing, tuple) or len(thing) < 2:
        return False
    if not is_number(thing[1]) or thing[1] < 1:
        return False
    if thing[0] == "drop":
        return len(thing) == 2
    if thing[0] == "put" or thing[0] == "turn":
        return len(thing) == 3 and is_number_in(thing[2], 1, wide)
    return False


def check_place(text, place):
    """Raise NoPlace unless place is a place or an end of text."""
    if place < 0 or place > len(text) + 1:
        raise NoPlace(place)


def next_place(text, place, letters):
    """The nearest place beyond place at which one of letters stands, else the back."""
    check_place(text, place)
    for own in range(place + 1, len(text) + 1):
        if text[own - 1] in letters:
            return own
    return len(text) + 1


def last_place(text, place, letters):
    """The nearest place ahead of place at which one of letters stands, else the front."""
    check_place(text, place)
    for own in range(place - 1, 0, -1):
        if text[own - 1] in letters:
            return own
    return 0


def between(text, near, far):
    """The set of the letters at places above near and below far."""
    check_place(text, near)
    check_place(text, far)
    return tuple(sorted({text[own - 1] for own in range(near + 1, far)}))


def changed(text, change):
    """The TEXT that comes of text by change."""
    word, place = change[0], change[1]
    # A letter can be put at the back, but nothing stands there to be dropped or turned.
    greatest = len(text) + 1 if word == "put" else len(text)
    if place < 1 or place > greatest:
        raise NoPlace(place)
    ahead = tuple(text[:place - 1])
    if word == "put":
        return ahead + (change[2],) + tuple(text[place - 1:])
    if word == "turn":
        return ahead + (change[2],) + tuple(text[place:])
    return ahead + tuple(text[place:])


def shorter(one, other):
    """Whether one comes ahead of other: is shorter, or equally long and lesser."""
    if len(one) != len(other):
        return len(one) < len(other)
    return tuple(one) < tuple(other)
