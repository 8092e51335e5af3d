"""Values written line by line, and read back: just what is so written is read."""

from nextsuch.asks import is_side
from nextsuch.checks import is_row_in, is_set_in
from nextsuch.errors import BadText
from nextsuch.kinds import KINDS, texts_of_bar
from nextsuch.lines import lines_of, numbers_in
from nextsuch.looks import is_look_knot
from nextsuch.lookways import leads_of_look
from nextsuch.machines import MOST_LETTERS, end_marks
from nextsuch.trees import is_knot, leads_of, spots_of
from nextsuch.words import is_letters, is_text

FIGURES = 12
# No number so written is as great.
BEYOND = 1000000000000


def line_of(*parts):
    """A line of parts: words, numbers, and tuples of numbers."""
    words = []
    for part in parts:
        words.extend([str(own) for own in part] if isinstance(part, (list, tuple)) else [str(part)])
    return " ".join(words)


def say_line(yes):
    """The line of a knot that says yes."""
    return line_of("say", "yes" if yes else "no")


def tree_line(knot):
    """The line of a knot of a TREE."""
    if knot[0] == "say":
        return say_line(knot[1])
    if knot[0] == "ask":
        return line_of("ask", knot[1], knot[2], knot[3], "then", knot[4])
    return line_of(*knot)


def looker_line(knot):
    """The line of a knot of a LOOK TREE."""
    return say_line(knot[1]) if knot[0] == "say" else line_of(*knot)


def write_machine(machine):
    """The string that tells machine."""
    rows = [line_of("end" if mark else "state", row) for row, mark in zip(machine[0], end_marks(machine))]
    return "\n".join(["machine"] + rows)


def write_tree(tree):
    """The string that tells tree."""
    return "\n".join(["tree"] + [tree_line(knot) for knot in tree])


def write_looker(looker):
    """The string that tells looker, a LOOK TREE."""
    return "\n".join(["looker"] + [looker_line(knot) for knot in looker])


def write_naming(naming):
    """The string that tells naming."""
    return "\n".join(["naming"] + [line_of(side, letters) for side, letters in naming])


def write_chains(chains):
    """The string that tells chains."""
    lines = []
    for sets, marks in chains:
        lines.append("chain")
        for own, mark in zip(sets, marks):
            lines.append(line_of("set", own))
            lines.append(line_of("mark", mark))
        lines.append(line_of("set", sets[-1]))
    return "\n".join(lines)


def write_bar(bar):
    """The string that tells bar."""
    return "\n".join([line_of("bar", bar[0])] + [write_text(own) for own in bar[1:]])


def write_text(row):
    """The string that tells row, a TEXT."""
    return line_of("text", row)


def parts_behind(written, head):
    """The list of the parts of each line behind the first one, which is head."""
    lines = lines_of(written)
    if lines[:1] != [head]:
        raise BadText(1)
    return [line.split(" ") for line in lines[1:]]


def read_machine(written):
    """The MACHINE that is so written."""
    steps, ends = [], []
    for own, parts in enumerate(parts_behind(written, "machine")):
        row = numbers_in(parts[1:], FIGURES)
        if parts[0] not in ("state", "end") or not is_row_in(row, 0, BEYOND):
            raise BadText(own + 2)
        if len(row) == 0 or len(row) > MOST_LETTERS or len(row) != len((steps + [row])[0]):
            raise BadText(own + 2)
        steps.append(row)
        if parts[0] == "end":
            ends.append(own)
    if len(steps) == 0 or max([max(row) for row in steps]) >= len(steps):
        raise BadText(len(steps) + 2)
    return tuple(steps), tuple(ends)


def read_knots(rows, knot_of, leads):
    """The tuple of the knots that rows, the parts of lines from the second one on, tell.

    knot_of(parts, own, asks) tells the knot of number own, None if it can not be that one; asks is the pair of the
    fewest and the most ASKS on the ways to it. leads(knot) tells the knots gone on to from knot.
    """
    asks = {0: (0, 0)}
    knots = []
    for own, parts in enumerate(rows):
        knot = knot_of(parts, own, asks[own]) if own in asks else None
        if knot is None:
            raise BadText(own + 2)
        knots.append(knot)
        fewest, most = [count + int(knot[0] == "ask") for count in asks[own]]
        for there in leads(knot):
            known = asks.get(there, (fewest, most))
            asks[there] = min(known[0], fewest), max(known[1], most)
    if max(list(asks)) >= len(knots):
        raise BadText(len(knots) + 2)
    return tuple(knots)


def say_knot(parts):
    """The knot of the parts of a line that begins with say; None if it is none."""
    if len(parts) != 2 or parts[1] not in ("yes", "no"):
        return None
    return "say", parts[1] == "yes"


def tree_knot(parts):
    """The knot of a TREE that parts of a line may tell, None in it for each that is no number."""
    if parts[0] == "say":
        return say_knot(parts)
    if parts[0] == "ask" and len(parts) > 4 and parts[-2] == "then":
        spot, there = numbers_in([parts[1], parts[-1]], FIGURES)
        return "ask", spot, parts[2], numbers_in(parts[3:-2], FIGURES), there
    if parts[0] == "order":
        return ("order",) + numbers_in(parts[1:], FIGURES)
    return None


def looker_knot(parts):
    """The knot of a LOOK TREE that parts of a line may tell, likewise."""
    if parts[0] == "say":
        return say_knot(parts)
    if parts[0] == "length":
        return "length", numbers_in(parts[1:], FIGURES)
    if parts[0] == "look" and len(parts) > 2:
        return ("look", parts[1]) + numbers_in(parts[2:3], FIGURES) + (numbers_in(parts[3:], FIGURES),)
    return None


def read_tree(wide, written):
    """The TREE that is so written."""
    def knot_of(parts, own, asks):
        knot = tree_knot(parts)
        if not is_knot(wide, knot, own, BEYOND):
            return None
        # Spots are numbered alike on all ways only if all have as many ASKS.
        if knot[0] != "say" and (asks[0] != asks[1] or not is_row_in(spots_of(knot), 0, asks[0] + 1)):
            return None
        return knot

    return read_knots(parts_behind(written, "tree"), knot_of, leads_of)


def read_looker(wide, written):
    """The LOOK TREE that is so written."""
    def knot_of(parts, own, asks):
        knot = looker_knot(parts)
        return knot if is_look_knot(wide, knot, own, BEYOND) else None

    return read_knots(parts_behind(written, "looker"), knot_of, leads_of_look)


def read_naming(wide, written):
    """The NAMING that is so written."""
    pairs = []
    for parts in parts_behind(written, "naming"):
        letters = numbers_in(parts[1:], FIGURES)
        if not is_side(parts[0]) or not is_letters(wide, letters):
            raise BadText(len(pairs) + 2)
        pairs.append((parts[0], letters))
    if len(pairs) == 0:
        raise BadText(2)
    return tuple(pairs)


def can_stand(wide, word, ahead, numbers):
    """Whether a line of word and numbers can stand behind one of the word ahead, "" at the beginning."""
    if word == "set":
        return ahead in ("chain", "mark") and is_set_in(numbers, 1, wide)
    if word == "mark":
        return ahead == "set" and len(numbers) == 1 and is_text(wide, numbers)
    return word == "chain" and ahead in ("", "set") and len(numbers) == 0


def read_chains(wide, written):
    """The tuple of the CHAINS that is so written."""
    chains = []
    ahead = ""
    lines = lines_of(written)
    for own, line in enumerate(lines):
        word, *parts = line.split(" ")
        numbers = numbers_in(parts, FIGURES)
        if not can_stand(wide, word, ahead, numbers):
            raise BadText(own + 1)
        if word == "chain":
            chains.append(([], []))
        elif word == "set":
            chains[-1][0].append(numbers)
        else:
            chains[-1][1].append(numbers[0])
        ahead = word
    if ahead in ("chain", "mark"):
        raise BadText(len(lines) + 1)
    return tuple([(tuple(sets), tuple(marks)) for sets, marks in chains])


def text_of(wide, line):
    """The TEXT that line tells, None if it tells none."""
    word, *parts = line.split(" ")
    row = numbers_in(parts, FIGURES)
    return row if word == "text" and is_text(wide, row) else None


def read_texts(wide, lines, first, many):
    """The tuple of just so many TEXTS, each told by one of lines, of which number first is the first one."""
    texts = []
    for line in lines:
        text = text_of(wide, line) if len(texts) < many else None
        if text is None:
            raise BadText(first + len(texts))
        texts.append(text)
    if len(texts) < many:
        raise BadText(first + len(texts))
    return tuple(texts)


def read_bar(wide, written):
    """The BAR that is so written."""
    lines = lines_of(written)
    words = (lines + [""])[0].split(" ")
    if len(words) != 2 or words[0] != "bar" or words[1] not in KINDS:
        raise BadText(1)
    return (words[1],) + read_texts(wide, lines[1:], 2, texts_of_bar(words[1]))


def read_text(wide, written):
    """The TEXT that is so written."""
    return read_texts(wide, lines_of(written), 1, 1)[0]
