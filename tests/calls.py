"""Calls of all functions of the interface, errors among them: each with its arguments by the names shown."""

from nextsuch import (
    against, asks, chains, changes, classes, desk, doings, judge, judged, kinds, looks, machines, made, namings, trees,
    unfolded, words, writing)
from tests.plain import KNOWN, ODD_THINGS, WORDS, all_letters, texts_to, thrown_machines
from tests.plain_doings import EDGES, PAIRS, SOONER, TWICE, WITH_200, WITH_201, ring, thrown_in_order
from tests.plain_looks import LOOK_BAR, thrown_look_trees
from tests.plain_trees import FIRST_2, LOOSE, NO, YES, thrown_chains, thrown_trees

TEXTS = texts_to(2, 2) + [(2, 1, 3, 1), (3, 3, 2, 1, 1, 2)]
MACHINES = [own for _, own, _ in KNOWN] + thrown_machines(7, 24)


def calls_of_words():
    """Calls of words.py, errors among them: the function, its arguments by the names that the interface shows."""
    for text in TEXTS:
        for place in (-1, 0, 1, len(text), len(text) + 1, len(text) + 2):
            for letters in all_letters(3)[::2]:
                yield words.next_place, {"text": text, "place": place, "letters": letters}
                yield words.last_place, {"text": text, "place": place, "letters": letters}
            for far in (0, 2, len(text) + 1, len(text) + 3):
                yield words.between, {"text": text, "near": place, "far": far}
            for change in (("put", place, 3), ("drop", place), ("turn", place, 2)):
                yield words.changed, {"text": text, "change": change}
        for other in TEXTS:
            yield words.shorter, {"one": text, "other": other}


def calls_of_machines():
    """Calls of machines.py, likewise."""
    for at, machine in enumerate(MACHINES):
        wide = len(machine[0][0])
        for function in (machines.wide_of, machines.least, machines.contrary, machines.mirrored, machines.first_taken):
            yield function, {"machine": machine}
        for text in texts_to(wide, 2) + [(1, wide, 1, 1, wide)]:
            yield machines.state_after, {"machine": machine, "text": text}
            yield machines.takes, {"machine": machine, "text": text}
        for other in MACHINES[at::5]:
            yield machines.alike, {"one": machine, "other": other}
            yield machines.parting, {"one": machine, "other": other}
            for word in WORDS:
                yield machines.joined, {"one": machine, "other": other, "word": word}


def calls_with_things():
    """Calls of the functions with a thing: it alone may not be a list where a tuple is stated."""
    for thing in ODD_THINGS + tuple(MACHINES[:4]):
        yield machines.is_machine, {"thing": thing}
        for wide in (1, 2, 3):
            for function in (words.is_text, words.is_letters, words.is_change):
                yield function, {"wide": wide, "thing": thing}


OWN_THINGS = (None, "asks", (0, 1), (0, 0, 2), (0, 2, 2), (0, True, 2), (1, 2, 2), (0,), ((0,),), ())
NAMINGS = ((("next", (1,)),), (("last", (1, 2)), ("next", (2,))), (("next", (3,)), ("last", (1, 2)), ("last", (1,))))
BARS = (("asks", (), (1, 2), (1,), ()), ("coming", (1, 2), (2, 1)), ("onward", (2,), (1,), (2,), (3,)),
        ("backward", (), (2,), (1,), (1, 1)), ("looks", (1,), (1, 2), (2, 1), ()))


def calls_of_doings():
    """Calls of doings.py and classes.py, likewise."""
    for machine in MACHINES[::5] + [TWICE, PAIRS, WITH_200, WITH_201, ring(61)] + EDGES:
        wide = len(machine[0][0])
        for function in (doings.doings, doings.idempotents, doings.span, classes.most_falls, classes.most_falls_back,
                         classes.longest_falling, classes.are_steady, kinds.kinds):
            yield function, {"machine": machine}
        for text in texts_to(wide, 1) + [(1, wide, 1, 1, wide)]:
            for function in (doings.doing_of, classes.falls, classes.falls_back):
                yield function, {"machine": machine, "text": text}
        for number in (0, 1, 5, 1000):
            yield doings.doings_long, {"machine": machine, "number": number}
        for kind in ("asks", "backward", "coming", "looks", "onward", "odd", None):
            yield kinds.is_of, {"machine": machine, "kind": kind}
            yield kinds.bar, {"machine": machine, "kind": kind}
    for machine in (TWICE, PAIRS, SOONER, WITH_201, (((1, 0), (0, 1)), (1,))):
        for doing in OWN_THINGS:
            for function in (doings.word_for, classes.onward_class, classes.backward_class, classes.both_ways,
                             classes.keeping, classes.keeping_back):
                yield function, {"machine": machine, "doing": doing}
            for other in OWN_THINGS[1::2]:
                yield doings.is_within, {"machine": machine, "one": doing, "other": other}
    for one, other in (((0,), (0,)), ((1, 2, 2), (0, 0, 2)), ((1, 2, 0), (1, 2, 0)), ((7, 0, 1, 2, 3, 4, 5, 6),) * 2):
        yield doings.then, {"one": one, "other": other}
        yield doings.power_of, {"doing": one}


def calls_of_asks():
    """Calls of asks.py and of texts_by, likewise."""
    for text in TEXTS:
        for place in (-1, 0, 1, len(text) + 1, len(text) + 2):
            yield asks.stands_at, {"text": text, "place": place}
            for side in ("next", "last"):
                for letters in all_letters(3)[::2]:
                    yield asks.found, {"text": text, "place": place, "side": side, "letters": letters}
        for naming in NAMINGS:
            yield asks.row_named, {"text": text, "naming": naming}
            yield asks.named, {"text": text, "naming": naming}
    for naming in NAMINGS:
        yield asks.turned, {"naming": naming}
    for bar in BARS:
        for number in (1, 2, 3, 6):
            yield kinds.texts_by, {"bar": bar, "number": number}


def more_calls_with_things():
    """Calls of the functions of kinds.py and asks.py with a thing."""
    for thing in ODD_THINGS + NAMINGS + BARS + ((3, "next", (1, 2)), (0, "last", (3,)), "last"):
        yield asks.is_side, {"thing": thing}
        for wide in (1, 2, 3):
            yield asks.is_ask, {"wide": wide, "thing": thing}
            yield asks.is_naming, {"wide": wide, "thing": thing}
        for machine in (PAIRS, SOONER, (((0, 1), (1, 1)), (1,))):
            yield kinds.is_bar, {"machine": machine, "thing": thing}


TREES = thrown_trees(81, 44)
CHAINS = thrown_chains(82, 45) + [(3, FIRST_2), (2, LOOSE), (1, (((),), ()))]


def calls_of_trees():
    """Calls of trees.py, unfolded.py and judged.py, likewise."""
    for at, (wide, tree) in enumerate(TREES):
        for function in (trees.asks_ahead, trees.depth, trees.manners, trees.shared, trees.tree_contrary,
                         trees.tree_mirrored):
            yield function, {"tree": tree}
        for text in texts_to(wide, 1) + [(1, wide, 1, 1, wide)]:
            for function in (trees.run, trees.answer, trees.way_of):
                yield function, {"tree": tree, "text": text}
            yield unfolded.chain_of, {"wide": wide, "tree": tree, "text": text}
        for function in (unfolded.unfolded, unfolded.reached, unfolded.cleaned, judged.machine_of):
            yield function, {"wide": wide, "tree": tree}
        for other in [own for own_wide, own in TREES[at % 7::7] if own_wide == wide] + [YES, NO, tree]:
            yield trees.tree_joined, {"one": tree, "other": other, "word": WORDS[at % 3]}
            yield judged.are_alike, {"wide": wide, "one": tree, "other": other}
            yield judged.unlike, {"wide": wide, "one": tree, "other": other}
        for machine in [own for own in MACHINES[at % 5::5] if len(own[0][0]) == wide] + [judged.machine_of(wide, tree)]:
            yield judged.is_right, {"machine": machine, "tree": tree}
            yield judged.wrong, {"machine": machine, "tree": tree}
    seven = tuple(("ask", at + 1, "next", (1, 2, 3), at + 1) for at in range(1, 7))
    seven = (("ask", 0, "next", (1, 2, 3), 1),) + seven + (("say", True),)
    for function in (unfolded.unfolded, unfolded.reached, unfolded.cleaned):
        yield function, {"wide": 3, "tree": seven}


def calls_of_chains():
    """Calls of chains.py and of machine_of_chains, likewise."""
    for at, (wide, chain) in enumerate(CHAINS):
        for function in (chains.is_single, chains.two_ways, chains.chain_mirrored):
            yield function, {"chain": chain}
        for text in texts_to(wide, 2) + [chain[1], tuple(chain[1]) + (1,)]:
            yield chains.ways, {"chain": chain, "text": text}
            yield chains.fits, {"chain": chain, "text": text}
        for letters in all_letters(wide):
            yield chains.narrowed, {"chain": chain, "letters": letters}
        for other in [own for _, own in CHAINS[at % 5::5]]:
            yield chains.meeting, {"one": chain, "other": other}
        some = tuple(own for own_wide, own in CHAINS[at::8] if own_wide == wide)
        yield judged.machine_of_chains, {"wide": wide, "chains": some}
    yield judged.machine_of_chains, {"wide": 2, "chains": ()}
    yield chains.ways, {"chain": (((1,), (1,)), (1,)), "text": (1,) * 2001}


def calls_with_more_things():
    """Calls of is_tree and is_chain."""
    for thing in ODD_THINGS + tuple(own for _, own in TREES[::4]) + tuple(own for _, own in CHAINS[::4]):
        for wide in (1, 2, 3):
            yield trees.is_tree, {"wide": wide, "thing": thing}
            yield chains.is_chain, {"wide": wide, "thing": thing}


LOOK_TREES = thrown_look_trees(83, 30)


def calls_of_made():
    """Calls of made.py and against.py, likewise."""
    ordered = thrown_in_order(84, 24) + [judged.machine_of(wide, tree) for wide, tree in TREES[::5]]
    for at, machine in enumerate(MACHINES[::4] + ordered + [TWICE, SOONER, WITH_200, WITH_201, ring(25)] + EDGES):
        wide = len(machine[0][0])
        for function in (made.made, made.made_onward, made.made_backward, made.made_coming):
            yield function, {"machine": machine}
        for tree in [own for own_wide, own in TREES[at % 11::11] if own_wide == wide] + [YES]:
            yield against.against, {"machine": machine, "tree": tree}
    for at, (wide, chain) in enumerate(CHAINS):
        some = (chain,) + tuple(own for own_wide, own in CHAINS[at::8] if own_wide == wide)
        yield made.of_chains, {"wide": wide, "chains": some[:1 + at % 3]}
    yield made.of_chains, {"wide": 3, "chains": ()}
    for bar in BARS:
        for number in (0, 1, 2, 7, 10 ** 20):
            yield against.wall, {"bar": bar, "number": number}
            yield against.asks_needed, {"bar": bar, "size": number}


def calls_of_looks():
    """Calls of looks.py, likewise."""
    for at, machine in enumerate(MACHINES[::3] + [WITH_201, ring(6), ring(61)] + EDGES):
        yield looks.made_looks, {"machine": machine}
        for wide, tree in LOOK_TREES[at % 5::5]:
            if wide == len(machine[0][0]):
                yield looks.looks_wrong, {"machine": machine, "tree": tree}
                yield looks.looks_right, {"machine": machine, "tree": tree}
    for wide, tree in LOOK_TREES:
        yield looks.looks_most, {"tree": tree}
        for text in texts_to(wide, 2) + [(1, wide, 1, 1, wide)]:
            yield looks.look, {"tree": tree, "text": text}
        if wide > 1:
            for bar in (LOOK_BAR, BARS[4]):
                yield looks.looks_against, {"bar": bar, "tree": tree}
    for number in (2, 3, 6):
        yield looks.exchanged, {"bar": BARS[4], "number": number}
    many = (("length", (1,) * 61), ("say", True))
    yield looks.looks_right, {"machine": EDGES[0], "tree": many}


def calls_of_namings():
    """Calls of namings.py, likewise."""
    for one in NAMINGS:
        for other in NAMINGS + (NAMINGS[0] * 2,):
            for function in (namings.are_one, namings.order_of, namings.unlike_named):
                yield function, {"wide": 3, "one": one, "other": other}
        yield namings.letters_there, {"wide": 3, "naming": one}
        for what in (1, 2, 3, "front", "back"):
            yield namings.text_with, {"wide": 3, "naming": one, "what": what}


def calls_with_still_more_things():
    """Calls of is_against and is_look_tree."""
    for thing in ODD_THINGS + tuple(own for _, own in LOOK_TREES) + (((), (1,)), ((1, 2, 1, 2), (1, 2, 1, 1, 2))):
        for wide in (1, 2, 3):
            yield looks.is_look_tree, {"wide": wide, "thing": thing}
        yield against.is_against, {"machine": PAIRS, "tree": YES, "thing": thing}


def calls_of_changes():
    """Calls of changes.py, likewise."""
    for at, (wide, tree) in enumerate(TREES):
        for text in texts_to(wide, 2)[at % 2::2] + [(1, wide, 1, 1, wide)]:
            for function in (changes.can_turn, changes.turning):
                yield function, {"wide": wide, "tree": tree, "text": text}
            yield changes.gone_over, {"tree": tree, "text": text}
            for change in (("put", 1, wide), ("drop", 2), ("turn", 1, 1), ("put", 4, 1)):
                yield changes.touched_by, {"tree": tree, "text": text, "change": change}
                yield changes.asked_again, {"tree": tree, "text": text, "change": change}
    for text in TEXTS:
        for place in (-1, 0, 1, 2, len(text) + 1, len(text) + 2):
            for change in (("put", 2, 1), ("drop", 1), ("turn", 3, 2), ("drop", 9)):
                yield changes.place_behind, {"text": text, "change": change, "place": place}


def calls_of_writing():
    """Calls of writing.py and desk.py, likewise."""
    values = [("machine", "machine", MACHINES[::3]), ("tree", "tree", [own for _, own in TREES[::2]]),
              ("looker", "looker", [own for _, own in LOOK_TREES[::2]]), ("naming", "naming", list(NAMINGS)),
              ("chains", "chains", [(), *[(own,) for _, own in CHAINS[::4]], tuple(own for _, own in CHAINS[:6])]),
              ("bar", "bar", list(BARS)), ("text", "row", TEXTS)]
    for kind, name, some in values:
        for value in some:
            write, read = getattr(writing, "write_" + kind), getattr(writing, "read_" + kind)
            yield write, {name: value}
            for written in (write(value), write(value) + "\n", write(value).partition("\n")[0], write(value).replace("1", "4")):
                yield read, {**({} if kind == "machine" else {"wide": 3}), "written": written}
    for text in ("", "shows", "put 1 1\nput 1 2\nshows\nundo\nmoved\nagain 0", "row\n text 1 2\ntree\n tree\n say yes\nanswers",
                 "shows\n\nmany", "undo\nwide 9"):
        yield desk.desk, {"text": text}


CLAIMS = (("kind", SOONER, "asks"), ("kind", PAIRS, "asks"), ("kind", WITH_201, "looks"), ("right", TWICE, YES),
          ("alike", 2, YES, YES), ("alike", 3, YES, NO), ("single", 2, LOOSE), ("single", 3, FIRST_2),
          ("apart", 3, FIRST_2, LOOSE), ("one", 3, NAMINGS[0], NAMINGS[1]), ("one", 3, NAMINGS[2], NAMINGS[2]),
          ("kind", PAIRS, "odd"), ("alike", 4, YES, NO), "kind", None, ())


def calls_of_judge():
    """Calls of judge.py, likewise."""
    for at, claim in enumerate(CLAIMS):
        yield judge.is_so, {"claim": claim}
        yield judge.paper, {"claim": claim}
        for claims in (CLAIMS[:at], CLAIMS[:3] + CLAIMS[3:at][::-1], CLAIMS[4:6]):
            yield judge.comes_of, {"claim": claim, "claims": claims}
            yield judge.first_false, {"claims": claims}
            yield judge.verdicts, {"claims": claims, "things": (None, "x", 1, True)[:len(claims)]}


def calls_with_the_last_things():
    """Calls of is_claim, is_paper_for, is_paper_against and is_request."""
    for thing in ODD_THINGS + CLAIMS + ("put 1 1", "tree", "row\n text", (1, 2), (2, 1, 1), ("asks", (), (1, 2), (1,), ())):
        yield judge.is_claim, {"thing": thing}
        yield desk.is_request, {"thing": thing}
        for claim in (CLAIMS[1], CLAIMS[4], CLAIMS[5], CLAIMS[6]):
            yield judge.is_paper_for, {"claim": claim, "thing": thing}
            yield judge.is_paper_against, {"claim": claim, "thing": thing}


CALLS = [*calls_of_words(), *calls_of_machines(), *calls_of_doings(), *calls_of_asks(), *calls_of_trees(),
         *calls_of_chains(), *calls_of_made(), *calls_of_looks(), *calls_of_namings(), *calls_of_changes(),
         *calls_of_writing(), *calls_of_judge()]
THING_CALLS = [*calls_with_things(), *more_calls_with_things(), *calls_with_more_things(),
               *calls_with_still_more_things(), *calls_with_the_last_things()]
# All other functions tell several results as a tuple that the document names.
LIST_FUNCTIONS = (chains.ways, unfolded.unfolded, looks.exchanged, judge.verdicts, desk.desk)
