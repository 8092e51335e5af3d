"""Lines and the numbers in them."""


def lines_of(written):
    """The list of the lines of a string: the empty one has none."""
    return [] if written == "" else written.split("\n")


def number_in(part, figures):
    """The number that part is, written in at most so many figures, without a needless 0; None if it is none."""
    if not (part.isascii() and part.isdigit()) or len(part) > figures:
        return None
    if part.startswith("0") and part != "0":
        return None
    return int(part)


def numbers_in(parts, figures):
    """The tuple of the numbers that parts are, None for each that is none."""
    return tuple([number_in(part, figures) for part in parts])
