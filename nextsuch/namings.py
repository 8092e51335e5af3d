"""Namings compared for all texts: whether they name one place, how they lie, and what can stand there.

A text is read letter by letter, with a guess of which pairs of a naming find the place that is read. The row of marks
that tell of each pair whether it has found the front or a place by then is all that further letters hang on.
"""

from nextsuch.errors import CanNot
from nextsuch.search import least_text

BEFORE = 0
HERE = 1
LATER = 2


def asked_from(naming, row, longer):
    """Where the next pair of naming is asked from: ahead of the place that is read, there, or behind it.

    row has the marks ahead of that place, longer those behind it of the pairs ahead of that pair.
    """
    at = len(longer)
    if at == 0:
        return BEFORE if naming[0][0] == "next" else LATER
    if row[at - 1]:
        return BEFORE
    return HERE if longer[at - 1] else LATER


def marks_told(pair, mark, asked, letter):
    """The marks that pair can have behind a place with letter, if it has mark ahead of it."""
    side, letters = pair
    if side == "next":
        return (mark or (asked == BEFORE and letter in letters),)
    if asked != LATER:
        # It has been found ahead of where it is asked from, or it is not what was guessed.
        return (True,) if mark else ()
    if letter not in letters:
        return (mark,)
    return () if mark else (False, True)


def rows_behind(naming, row, letter):
    """The list of all rows that one can have behind a place with letter, with row ahead of it."""
    told = [()]
    for at, pair in enumerate(naming):
        told = [longer + (mark,) for longer in told
                for mark in marks_told(pair, row[at], asked_from(naming, row, longer), letter)]
    return told


def marks_at_front(side, longer):
    """The marks that the next pair, of side, can have at the front, longer those of the pairs ahead of it there."""
    if side == "next":
        return (False,)
    # From the front nothing is found ahead but the front.
    return (True,) if any(longer[-1:]) else (False, True)


def rows_at_front(naming):
    """The list of all rows that one can have at the front."""
    told = [()]
    for side, _ in naming:
        told = [longer + (mark,) for longer in told for mark in marks_at_front(side, longer)]
    return told


def can_end(naming, row):
    """Whether a text can end with row: what is not found by then is the back."""
    return all([mark or side == "next" for mark, (side, _) in zip(row, naming)])


def how_they_lie(lies, row, other_row):
    """How what one naming names lies to what other names, None as long as both may still come; lies is known."""
    if lies is not None or not (row[-1] or other_row[-1]):
        return lies
    if row[-1] and other_row[-1]:
        return "same"
    return "ahead" if row[-1] else "behind"


def text_lying(wide, one, other, words):
    """The least TEXT in which one of words tells how what one names lies to what other names; None without."""
    starts = [(row, other_row, how_they_lie(None, row, other_row))
              for row in rows_at_front(one) for other_row in rows_at_front(other)]

    def go_on(own, letter):
        if letter > wide:
            return []
        here, there, lies = own
        return [(row, other_row, how_they_lie(lies, row, other_row))
                for row in rows_behind(one, here, letter) for other_row in rows_behind(other, there, letter)]

    def is_end(own):
        here, there, lies = own
        # What is found by neither is the back.
        return can_end(one, here) and can_end(other, there) and ("same" if lies is None else lies) in words

    return least_text(starts, go_on, is_end)


def text_there(wide, naming, what):
    """The least TEXT in which what stands at what naming names; None if there is none."""
    starts = [(row, "front" if row[-1] else None) for row in rows_at_front(naming)]

    def go_on(own, letter):
        if letter > wide:
            return []
        here, stands = own
        return [(row, letter if stands is None and row[-1] else stands) for row in rows_behind(naming, here, letter)]

    def is_end(own):
        here, stands = own
        return can_end(naming, here) and ("back" if stands is None else stands) == what

    return least_text(starts, go_on, is_end)


def are_one(wide, one, other):
    """Whether both name the same place or end in each TEXT."""
    return text_lying(wide, one, other, ("ahead", "behind")) is None


def order_of(wide, one, other):
    """How what one names lies to what other names in each TEXT, None if not alike in all."""
    told = [word for word in ("ahead", "same", "behind") if text_lying(wide, one, other, (word,)) is not None]
    return told[0] if len(told) == 1 else None


def unlike_named(wide, one, other):
    """The least TEXT in which they name unlike places or ends."""
    text = text_lying(wide, one, other, ("ahead", "behind"))
    if text is None:
        raise CanNot()
    return text


def letters_there(wide, naming):
    """What can stand at what naming names: letters, ascending, "back", "front"."""
    return tuple([what for what in tuple(range(1, wide + 1)) + ("back", "front")
                  if text_there(wide, naming, what) is not None])


def text_with(wide, naming, what):
    """The least TEXT in which what stands there."""
    text = text_there(wide, naming, what)
    if text is None:
        raise CanNot()
    return text
