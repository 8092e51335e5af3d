"""Plain reckoning for the tests of look trees and of what ends at machines: without the program."""

from tests.plain import Dice, texts_to

# The look trees and the bar of the document's examples.
LOOK_FIRST = (("look", "next", 0, (2, 1, 2)), ("say", True), ("say", False))
LOOK_EVEN = (("length", (1, 2)), ("say", True), ("say", False))
LOOK_LAST = (("look", "last", 1, (1, 1, 2)), ("say", False), ("say", True))
LOOK_BAR = ("looks", (), (1, 1), (1, 2), ())


def look_leads(knot):
    return {"say": lambda: (), "length": lambda: knot[1], "look": lambda: knot[3]}[knot[0]]()


def plain_look(tree, text):
    """What is answered, by a walk from knot to knot."""
    knot = tree[0]
    while knot[0] != "say":
        if knot[0] == "length":
            knot = tree[knot[1][len(text) % len(knot[1])]]
        else:
            letters = text if knot[1] == "next" else text[::-1]
            knot = tree[knot[3][letters[knot[2]] if knot[2] < len(text) else 0]]
    return knot[1]


def look_ways(tree):
    """All ways from knot 0 to a "say", each place told apart: the tuples of the knots, as often as there are ways."""
    told, left = [], [(0,)]
    while left:
        way = left.pop()
        further = look_leads(tree[way[-1]])
        left.extend(way + (there,) for there in further)
        if tree[way[-1]][0] == "say":
            told.append(way)
    return told


def is_plain_look_tree(wide, thing):
    """Whether thing is a LOOK TREE, by the words of section 3."""
    if type(thing) is not tuple or thing == ():
        return False
    gone_to = set()
    for own, knot in enumerate(thing):
        if type(knot) is not tuple or not knot or type(knot[0]) is not str:
            return False
        if knot[0] == "say":
            if len(knot) != 2 or type(knot[1]) is not bool:
                return False
            continue
        if knot[0] not in ("length", "look") or len(knot) != {"length": 2, "look": 4}[knot[0]]:
            return False
        leads = knot[-1]
        if type(leads) is not tuple or any(type(there) is not int or not own < there < len(thing) for there in leads):
            return False
        if knot[0] == "length" and leads == ():
            return False
        if knot[0] == "look":
            if type(knot[1]) is not str or knot[1] not in ("next", "last") or len(leads) != wide + 1:
                return False
            if type(knot[2]) is not int or knot[2] < 0:
                return False
        gone_to |= {*leads}
    return gone_to == {*range(1, len(thing))}


def thrown_look_tree(dice, wide, depth, far, lengths):
    """A look tree of at most so many looks and lengths on a way, numbers to far, lengths of lengths."""
    knots = []

    def put(left):
        at = len(knots)
        knots.append(None)
        if not left or dice.below(4) == 0:
            knots[at] = "say", dice.below(2) == 0
        elif dice.below(4) == 0:
            knots[at] = "length", tuple(put(left - 1) for _ in range(lengths[dice.below(len(lengths))]))
        else:
            side = ("next", "last")[dice.below(2)]
            knots[at] = "look", side, dice.below(far + 1), tuple(put(left - 1) for _ in range(wide + 1))
        return at

    put(depth)
    return with_one_say(tuple(knots))


def with_one_say(tree):
    """The tree in which knots that say the same are one."""
    kept = [own for own, knot in enumerate(tree) if knot[0] != "say"]
    says = [yes for yes in (True, False) if ("say", yes) in tree]
    numbers = {own: at for at, own in enumerate(kept)}
    numbers.update({own: len(kept) + says.index(knot[1]) for own, knot in enumerate(tree) if knot[0] == "say"})
    return tuple(tree[own][:-1] + (tuple(numbers[there] for there in tree[own][-1]),) for own in kept) + tuple(
        ("say", yes) for yes in says)


def thrown_look_trees(seed, many):
    """Pairs of wide and a look tree, one of one knot among them, and those of the examples."""
    dice = Dice(seed)
    found = [(2, LOOK_FIRST), (2, LOOK_EVEN), (2, LOOK_LAST), (1, (("say", True),)), (3, (("say", False),))]
    while len(found) < many:
        wide = 1 + dice.below(3)
        tree = thrown_look_tree(dice, wide, 1 + dice.below(4), dice.below(4), (1, 2, 3))
        if len(tree) <= 60:
            found.append((wide, tree))
    return found


# For the texts of three letters fewer are enough.
LONGEST = {1: 12, 2: 7, 3: 5}
LOOK_TEXTS = {wide: texts_to(wide, LONGEST[wide]) for wide in (1, 2, 3)}


def long_texts(seed, wide, many, longest=60):
    """Texts that look thrown, of up to so many letters."""
    dice = Dice(seed)
    return [tuple(1 + dice.below(wide) for _ in range(dice.below(longest + 1))) for _ in range(many)]
