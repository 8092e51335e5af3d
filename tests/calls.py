"""Calls of all functions of the interface, errors among them: each with its arguments by the names shown."""

from nextsuch import asks, classes, doings, kinds, machines, words
from tests.plain import KNOWN, ODD_THINGS, WORDS, all_letters, texts_to, thrown_machines
from tests.plain_doings import EDGES, PAIRS, SOONER, TWICE, WITH_200, WITH_201, ring

TEXTS = texts_to(2, 2) + [(2, 1, 3, 1), (3, 3, 2, 1, 1, 2)]
MACHINES = [own for _, own, _ in KNOWN] + thrown_machines(7, 24)


def calls_of_words():
    """Calls of words.py, errors among them: the function, its arguments by the names that the interface shows."""
    for text in TEXTS:
        for place in (-1, 0, 1, len(text), len(text) + 1, len(text) + 2):
            for letters in all_letters(3)[::2]:
                yield words.next_place, {"text": text, "place": place, "letters": letters}
                yield words.last_place, {"text": text, "place": place, "letters": letters}
            for far in (0, 2, len(text) + 1, len(text) + 3):
                yield words.between, {"text": text, "near": place, "far": far}
            for change in (("put", place, 3), ("drop", place), ("turn", place, 2)):
                yield words.changed, {"text": text, "change": change}
        for other in TEXTS:
            yield words.shorter, {"one": text, "other": other}


def calls_of_machines():
    """Calls of machines.py, likewise."""
    for at, machine in enumerate(MACHINES):
        wide = len(machine[0][0])
        for function in (machines.wide_of, machines.least, machines.contrary, machines.mirrored, machines.first_taken):
            yield function, {"machine": machine}
        for text in texts_to(wide, 2) + [(1, wide, 1, 1, wide)]:
            yield machines.state_after, {"machine": machine, "text": text}
            yield machines.takes, {"machine": machine, "text": text}
        for other in MACHINES[at::5]:
            yield machines.alike, {"one": machine, "other": other}
            yield machines.parting, {"one": machine, "other": other}
            for word in WORDS:
                yield machines.joined, {"one": machine, "other": other, "word": word}


def calls_with_things():
    """Calls of the functions with a thing: it alone may not be a list where a tuple is stated."""
    for thing in ODD_THINGS + tuple(MACHINES[:4]):
        yield machines.is_machine, {"thing": thing}
        for wide in (1, 2, 3):
            for function in (words.is_text, words.is_letters, words.is_change):
                yield function, {"wide": wide, "thing": thing}


OWN_THINGS = (None, "asks", (0, 1), (0, 0, 2), (0, 2, 2), (0, True, 2), (1, 2, 2), (0,), ((0,),), ())
NAMINGS = ((("next", (1,)),), (("last", (1, 2)), ("next", (2,))), (("next", (3,)), ("last", (1, 2)), ("last", (1,))))
BARS = (("asks", (), (1, 2), (1,), ()), ("coming", (1, 2), (2, 1)), ("onward", (2,), (1,), (2,), (3,)),
        ("backward", (), (2,), (1,), (1, 1)), ("looks", (1,), (1, 2), (2, 1), ()))


def calls_of_doings():
    """Calls of doings.py and classes.py, likewise."""
    for machine in MACHINES[::5] + [TWICE, PAIRS, WITH_200, WITH_201, ring(61)] + EDGES:
        wide = len(machine[0][0])
        for function in (doings.doings, doings.idempotents, doings.span, classes.most_falls, classes.most_falls_back,
                         classes.longest_falling, classes.are_steady, kinds.kinds):
            yield function, {"machine": machine}
        for text in texts_to(wide, 1) + [(1, wide, 1, 1, wide)]:
            for function in (doings.doing_of, classes.falls, classes.falls_back):
                yield function, {"machine": machine, "text": text}
        for number in (0, 1, 5, 1000):
            yield doings.doings_long, {"machine": machine, "number": number}
        for kind in ("asks", "backward", "coming", "looks", "onward", "odd", None):
            yield kinds.is_of, {"machine": machine, "kind": kind}
            yield kinds.bar, {"machine": machine, "kind": kind}
    for machine in (TWICE, PAIRS, SOONER, WITH_201, (((1, 0), (0, 1)), (1,))):
        for doing in OWN_THINGS:
            for function in (doings.word_for, classes.onward_class, classes.backward_class, classes.both_ways,
                             classes.keeping, classes.keeping_back):
                yield function, {"machine": machine, "doing": doing}
            for other in OWN_THINGS[1::2]:
                yield doings.is_within, {"machine": machine, "one": doing, "other": other}
    for one, other in (((0,), (0,)), ((1, 2, 2), (0, 0, 2)), ((1, 2, 0), (1, 2, 0)), ((7, 0, 1, 2, 3, 4, 5, 6),) * 2):
        yield doings.then, {"one": one, "other": other}
        yield doings.power_of, {"doing": one}


def calls_of_asks():
    """Calls of asks.py and of texts_by, likewise."""
    for text in TEXTS:
        for place in (-1, 0, 1, len(text) + 1, len(text) + 2):
            yield asks.stands_at, {"text": text, "place": place}
            for side in ("next", "last"):
                for letters in all_letters(3)[::2]:
                    yield asks.found, {"text": text, "place": place, "side": side, "letters": letters}
        for naming in NAMINGS:
            yield asks.row_named, {"text": text, "naming": naming}
            yield asks.named, {"text": text, "naming": naming}
    for naming in NAMINGS:
        yield asks.turned, {"naming": naming}
    for bar in BARS:
        for number in (1, 2, 3, 6):
            yield kinds.texts_by, {"bar": bar, "number": number}


def more_calls_with_things():
    """Calls of the functions of kinds.py and asks.py with a thing."""
    for thing in ODD_THINGS + NAMINGS + BARS + ((3, "next", (1, 2)), (0, "last", (3,)), "last"):
        yield asks.is_side, {"thing": thing}
        for wide in (1, 2, 3):
            yield asks.is_ask, {"wide": wide, "thing": thing}
            yield asks.is_naming, {"wide": wide, "thing": thing}
        for machine in (PAIRS, SOONER, (((0, 1), (1, 1)), (1,))):
            yield kinds.is_bar, {"machine": machine, "thing": thing}


CALLS = [*calls_of_words(), *calls_of_machines(), *calls_of_doings(), *calls_of_asks()]
THING_CALLS = [*calls_with_things(), *more_calls_with_things()]
