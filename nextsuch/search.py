"""Least texts to where several ways lead at once."""

from nextsuch.machines import MOST_LETTERS


def least_text(starts, go_on, is_end):
    """The least TEXT by which one can come from one of starts to what is_end tells of; None if there is none.

    go_on(own, letter) tells the list of all to which one can come from own by letter.
    """
    # What is first come to by one TEXT stands together, so that all that comes of it by a lesser letter stands ahead
    # of what comes of it by a greater one.
    groups = [((), starts)]
    seen = {own: True for own in starts}
    at = 0
    while at < len(groups):
        text, group = groups[at]
        if any([is_end(own) for own in group]):
            return text
        for letter in range(1, MOST_LETTERS + 1):
            fresh = []
            for own in group:
                for there in go_on(own, letter):
                    if there not in seen:
                        seen[there] = True
                        fresh.append(there)
            if len(fresh) > 0:
                groups.append((text + (letter,), fresh))
        at += 1
    return None
