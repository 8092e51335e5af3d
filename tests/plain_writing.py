"""Plain writing for the tests: each kind of value written line by line, and which lines can stand, without the program."""

import re

from tests.plain_looks import look_leads
from tests.plain_trees import leads

NUMBER = "(?:0|[1-9][0-9]{0,11})"


def row(numbers):
    return "".join(f" {own}" for own in numbers)


def yes_line(yes):
    return "say yes" if yes else "say no"


def machine_lines(machine):
    steps, ends = machine
    return ["machine"] + [("end" if own in ends else "state") + row(told) for own, told in enumerate(steps)]


def tree_lines(tree):
    lines = ["tree"]
    for knot in tree:
        if knot[0] == "say":
            lines.append(yes_line(knot[1]))
        elif knot[0] == "ask":
            lines.append(f"ask {knot[1]} {knot[2]}{row(knot[3])} then {knot[4]}")
        else:
            lines.append("order" + row(knot[1:]))
    return lines


def looker_lines(tree):
    lines = ["looker"]
    for knot in tree:
        if knot[0] == "say":
            lines.append(yes_line(knot[1]))
        elif knot[0] == "length":
            lines.append("length" + row(knot[1]))
        else:
            lines.append(f"look {knot[1]} {knot[2]}{row(knot[3])}")
    return lines


def naming_lines(naming):
    return ["naming"] + [side + row(letters) for side, letters in naming]


def chains_lines(chains):
    lines = []
    for sets, marks in chains:
        lines.append("chain")
        for at, own in enumerate(sets):
            lines.append("set" + row(own))
            if at < len(marks):
                lines.append(f"mark {marks[at]}")
    return lines


def bar_lines(bar):
    return [f"bar {bar[0]}"] + ["text" + row(own) for own in bar[1:]]


def text_lines(text):
    return ["text" + row(text)]


def numbers_of(line):
    return [int(own) for own in line.split(" ") if re.fullmatch(NUMBER, own)]


def is_letter_row(wide, numbers):
    return all(1 <= own <= wide for own in numbers)


def is_letter_set(wide, numbers):
    return is_letter_row(wide, numbers) and numbers == sorted({*numbers})


def fits_machine(lines):
    """How far the lines can stand: the number of the first that can not, None if all can, and whether more are wanted."""
    told = []
    for at, line in enumerate(lines):
        if at == 0:
            if line != "machine":
                return 1, False
            continue
        if not re.fullmatch(f"(state|end)( {NUMBER}){{1,3}}", line):
            return at + 1, False
        told.append(numbers_of(line))
        if len(told[-1]) != len(told[0]):
            return at + 1, False
    return None, not told or max(max(own) for own in told) >= len(told)


def fits_knots(lines, head, knot_of, leads_of, can_be):
    asked = {0: {0}}
    for at, line in enumerate(lines):
        if at == 0:
            if line != head:
                return 1, False
            continue
        own = at - 1
        knot = knot_of(line)
        if own not in asked or knot is None or any(there <= own for there in leads_of(knot)):
            return at + 1, False
        if not can_be(knot, asked[own]):
            return at + 1, False
        for there in leads_of(knot):
            asked.setdefault(there, set()).update({count + (knot[0] == "ask") for count in asked[own]})
    return None, len(lines) == 0 or max(asked) > len(lines) - 2


def tree_knot(line):
    if line in ("say yes", "say no"):
        return "say", line == "say yes"
    if re.fullmatch(f"ask {NUMBER} (next|last)( {NUMBER})+ then {NUMBER}", line):
        numbers = numbers_of(line)
        return "ask", numbers[0], line.split(" ")[2], numbers[1:-1], numbers[-1]
    if re.fullmatch(f"order( {NUMBER}){{5}}", line):
        return ("order", *numbers_of(line))
    return None


def fits_tree(wide, lines):
    def can_be(knot, asked):
        if knot[0] == "say":
            return True
        spots = knot[1:2] if knot[0] == "ask" else knot[1:3]
        if len(asked) > 1 or max(spots) > max(asked) + 1 or len({*spots}) < len(spots):
            return False
        return knot[0] == "order" or is_letter_set(wide, knot[3])
    return fits_knots(lines, "tree", tree_knot, leads, can_be)


def looker_knot(line):
    if line in ("say yes", "say no"):
        return "say", line == "say yes"
    if re.fullmatch(f"length( {NUMBER})+", line):
        return "length", numbers_of(line)
    if re.fullmatch(f"look (next|last) {NUMBER}( {NUMBER})+", line):
        return "look", line.split(" ")[1], numbers_of(line)[0], numbers_of(line)[1:]
    return None


def fits_looker(wide, lines):
    return fits_knots(lines, "looker", looker_knot, look_leads,
                      lambda knot, _: knot[0] != "look" or len(knot[3]) == wide + 1)


def fits_naming(wide, lines):
    for at, line in enumerate(lines):
        good = line == "naming" if at == 0 else re.fullmatch(f"(next|last)( {NUMBER})+", line) and is_letter_set(
            wide, numbers_of(line))
        if not good:
            return at + 1, False
    return None, len(lines) < 2


def fits_chains(wide, lines):
    for at, line in enumerate(lines):
        ahead = lines[at - 1].split(" ")[0] if at else ""
        if ahead in ("chain", "mark"):
            good = re.fullmatch(f"set( {NUMBER})*", line) and is_letter_set(wide, numbers_of(line))
        else:
            good = line == "chain" or ahead == "set" and re.fullmatch(f"mark {NUMBER}", line) and is_letter_row(
                wide, numbers_of(line))
        if not good:
            return at + 1, False
    return None, lines != [] and lines[-1].split(" ")[0] in ("chain", "mark")


def is_text_line(wide, line):
    return bool(re.fullmatch(f"text( {NUMBER})*", line)) and is_letter_row(wide, numbers_of(line))


def fits_bar(wide, lines):
    many = {"bar coming": 2, "bar onward": 4, "bar backward": 4, "bar asks": 4, "bar looks": 4}
    for at, line in enumerate(lines):
        good = line in many if at == 0 else at <= many[lines[0]] and is_text_line(wide, line)
        if not good:
            return at + 1, False
    return None, lines == [] or len(lines) <= many[lines[0]]


def fits_text(wide, lines):
    for at, line in enumerate(lines):
        if at or not is_text_line(wide, line):
            return at + 1, False
    return None, lines == []


FITTING = {"machine": lambda wide, lines: fits_machine(lines), "tree": fits_tree, "looker": fits_looker,
           "naming": fits_naming, "chains": fits_chains, "bar": fits_bar, "text": fits_text}


def first_bad(kind, wide, written):
    """The first line of written that can not stand, the one behind the last if lines are wanting; None if all is well."""
    lines = written.split("\n") if written else []
    bad, is_wanting = FITTING[kind](wide, lines)
    return len(lines) + 1 if bad is None and is_wanting else bad


WRITING = {"machine": machine_lines, "tree": tree_lines, "looker": looker_lines, "naming": naming_lines,
           "chains": chains_lines, "bar": bar_lines, "text": text_lines}


def plain_written(kind, value):
    return "\n".join(WRITING[kind](value))
