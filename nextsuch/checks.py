"""What things of any kind are: numbers, rows and sets of numbers."""


def is_number(thing):
    """Whether thing is an integer that is neither True nor False."""
    return isinstance(thing, int) and not isinstance(thing, bool)


def is_number_in(thing, low, high):
    """Whether thing is a number from low to high."""
    return is_number(thing) and low <= thing and thing <= high


def is_row_in(thing, low, high):
    """Whether thing is a tuple, maybe (), of numbers from low to high."""
    return isinstance(thing, tuple) and all([is_number_in(own, low, high) for own in thing])


def is_set_in(thing, low, high):
    """Whether thing is an ascending tuple, maybe (), of numbers from low to high."""
    return is_row_in(thing, low, high) and all([one < other for one, other in zip(thing, thing[1:])])
