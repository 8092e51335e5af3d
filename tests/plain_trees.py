"""Plain reckoning for the tests of trees and chains: by walking all texts and trying all places, without the program."""

from itertools import combinations

from tests.plain import Dice, all_letters, texts_to

# The trees and chains of the document's examples.
EARLY = (("ask", 0, "next", (2,), 1), ("ask", 2, "last", (1,), 2), ("order", 3, 0, 3, 3, 4), ("say", False), ("say", True))
SOME_2 = (("ask", 1, "last", (2,), 1), ("order", 0, 2, 2, 3, 3), ("say", True), ("say", False))
IDLE = (("ask", 0, "next", (1,), 1), ("order", 0, 2, 2, 3, 3), ("order", 2, 1, 4, 5, 6), ("say", False), ("say", True),
        ("say", False), ("say", True))
AHEAD_TREE = (("ask", 0, "next", (1,), 1), ("ask", 2, "next", (2,), 2), ("order", 3, 1, 3, 4, 4), ("say", True),
              ("say", False))
AHEAD_BACK = (("ask", 1, "last", (2,), 1), ("ask", 2, "last", (1,), 2), ("order", 0, 3, 3, 4, 4), ("say", True),
              ("say", False))
SHORT = (("ask", 0, "next", (2,), 1), ("order", 2, 1, 2, 3, 3), ("say", True), ("say", False))
YES, NO = (("say", True),), (("say", False),)
FIRST_2 = (((1, 3), (1, 2, 3)), (2,))
LOOSE = (((1, 2), (1,), (1, 2)), (2, 1))


def leads(knot):
    return {"say": (), "ask": knot[4:], "order": knot[3:]}[knot[0]]


def spots(knot):
    return {"say": (), "ask": knot[1:2], "order": knot[1:3]}[knot[0]]


def with_leads(knot, told):
    return {"say": knot, "ask": knot[:4], "order": knot[:3]}[knot[0]] + tuple(told)


def counts_ahead(tree):
    """For each knot the set of the numbers of ASKS on all ways to it; none on no way."""
    counts = [set() for _ in tree]
    counts[0].add(0)
    for own, knot in enumerate(tree):
        for there in leads(knot):
            counts[there] |= {count + (knot[0] == "ask") for count in counts[own]}
    return counts


def is_plain_number(thing):
    return type(thing) is int


def is_plain_set(wide, thing):
    if type(thing) is not tuple or not all(is_plain_number(own) and 1 <= own <= wide for own in thing):
        return False
    return list(thing) == sorted({*thing})


def is_plain_knot(wide, knot, own, many):
    """Whether knot is one by its words alone, those that it goes on to among the ones behind it."""
    if type(knot) is not tuple or not knot or type(knot[0]) is not str:
        return False
    if knot[0] == "say":
        return len(knot) == 2 and type(knot[1]) is bool
    if knot[0] not in ("ask", "order") or len(knot) != {"ask": 5, "order": 6}[knot[0]]:
        return False
    if not all(is_plain_number(there) and own < there < many for there in leads(knot)):
        return False
    if not all(is_plain_number(spot) and spot >= 0 for spot in spots(knot)):
        return False
    if knot[0] == "ask":
        return type(knot[2]) is str and knot[2] in ("next", "last") and is_plain_set(wide, knot[3]) and knot[3] != ()
    return knot[1] != knot[2]


def is_plain_tree(wide, thing):
    """Whether thing is a TREE, by the words of section 3."""
    if type(thing) is not tuple or thing == ():
        return False
    if not all(is_plain_knot(wide, knot, own, len(thing)) for own, knot in enumerate(thing)):
        return False
    for knot, counts in zip(thing, counts_ahead(thing)):
        if not counts or (knot[0] != "say" and len(counts) > 1):
            return False
        if any(spot > max(counts) + 1 for spot in spots(knot)):
            return False
    return True


def plain_found(text, place, side, letters):
    kept = [own for own in range(1, len(text) + 1) if text[own - 1] in letters]
    if side == "next":
        return min([own for own in kept if own > place], default=len(text) + 1)
    return max([own for own in kept if own < place], default=0)


def plain_gone(tree, text):
    """The knots to which one comes, the spots at last, and what is answered."""
    way, places = [0], [0, len(text) + 1]
    while tree[way[-1]][0] != "say":
        knot = tree[way[-1]]
        if knot[0] == "ask":
            places.append(plain_found(text, places[knot[1]], knot[2], knot[3]))
            way.append(knot[4])
        else:
            way.append(knot[3 + which_way(places, knot[1], knot[2])])
    return tuple(way), tuple(places), tree[way[-1]][1]


def ways_down(tree):
    """All ways from knot 0 to a "say", each the tuple of its knots."""
    told, left = [], [(0,)]
    while left:
        way = left.pop()
        further = leads(tree[way[-1]])
        left.extend(way + (there,) for there in sorted({*further}))
        if not further:
            told.append(way)
    return told


def behaviours(tree):
    """For each knot a number for what it does step by step: the same for knots that do the same, in whatever tree."""
    counts, told = counts_ahead(tree), [None] * len(tree)
    for own in reversed(range(len(tree))):
        knot = tree[own]
        key = knot if knot[0] == "say" else (max(counts[own]),) + with_leads(knot, [told[there] for there in leads(knot)])
        told[own] = BEHAVIOURS.setdefault(key, len(BEHAVIOURS))
    return told


BEHAVIOURS = {}


def renumbered(tree, order):
    """The tree of the knots that order names, in this order."""
    numbers = {own: at for at, own in enumerate(order)}
    return tuple(with_leads(tree[own], [numbers[there] for there in leads(tree[own])]) for own in order)


def come_to(tree):
    """The knots to which ways lead from knot 0, in order."""
    seen = {0}
    for own in range(len(tree)):
        if own in seen:
            seen.update(leads(tree[own]))
    return sorted(seen)


def unshared(tree):
    """The tree with a knot of its own for each way, each ahead of all that it goes on to."""
    knots = []

    def put(own):
        at = len(knots)
        knots.append(None)
        knots[at] = with_leads(tree[own], [put(there) for there in leads(tree[own])])
        return at

    put(0)
    return tuple(knots)


def in_other_order(dice, tree):
    """The same tree, its knots numbered in another order."""
    ahead = [0] * len(tree)
    for knot in tree:
        for there in leads(knot):
            ahead[there] += 1
    ready, order = [0], []
    while ready:
        own = ready.pop(dice.below(len(ready)))
        order.append(own)
        for there in leads(tree[own]):
            ahead[there] -= 1
            if not ahead[there]:
                ready.append(there)
    return renumbered(tree, order)


def thrown_ask(dice, wide, rows):
    """The spot, side and letters of an ASK, most times one that finds what is no spot yet in some of rows."""
    for _ in range(1 + dice.below(8)):
        spot, side = dice.below(len(rows[0][1])), ("next", "last")[dice.below(2)]
        letters = all_letters(wide)[dice.below(2 ** wide - 1)] if dice.below(3) == 0 else (1 + dice.below(wide),)
        if any(plain_found(text, places[spot], side, letters) not in places for text, places in rows):
            break
    return spot, side, letters


def thrown_order(dice, rows):
    """Two unlike spots, most times such as do not lie alike in all of rows."""
    many = len(rows[0][1])
    for _ in range(1 + dice.below(12)):
        one = dice.below(many)
        other = (one + 1 + dice.below(many - 1)) % many
        if len({which_way(places, one, other) for _, places in rows}) > 1:
            break
    return one, other


def which_way(places, one, other):
    """0 if spot one lies ahead of spot other, 1 if they are at one place, 2 if it lies behind."""
    return (places[one] >= places[other]) + (places[one] > places[other])


def thrown_tree(dice, wide, depth, orders):
    """A tree of at most so many ASKS on a way and, ahead of sharing, so many orders on a way."""
    knots = []

    def put(rows, asks, left):
        at = len(knots)
        knots.append(None)
        if asks < depth and dice.below(9) < (8, 6, 5, 5)[asks]:
            spot, side, letters = thrown_ask(dice, wide, rows)
            further = [(text, places + (plain_found(text, places[spot], side, letters),)) for text, places in rows]
            knots[at] = "ask", spot, side, letters, put(further, asks + 1, left)
        elif left and dice.below(9):
            one, other = thrown_order(dice, rows)
            parts = [[row for row in rows if which_way(row[1], one, other) == way] or rows for way in range(3)]
            knots[at] = ("order", one, other) + tuple(put(part, asks, left - 1) for part in parts)
        else:
            knots[at] = "say", dice.below(2) == 0
        return at

    put([(text, (0, len(text) + 1)) for text in texts_to(wide, 3)], 0, orders)
    return shared_at_places(dice, tuple(knots))


def shared_at_places(dice, tree):
    """The tree in which some knots go on to others with as many ASKS ahead, those come to alone."""
    for _ in range(len(tree) // 4):
        own = dice.below(len(tree))
        counts = counts_ahead(tree)
        asks = max(counts[own]) + (tree[own][0] == "ask")
        fit = [there for there in range(own + 1, len(tree)) if counts[there] == {asks} or tree[there][0] == "say"]
        told = [fit[dice.below(len(fit))] if fit and dice.below(3) == 0 else there for there in leads(tree[own])]
        tree = tree[:own] + (with_leads(tree[own], told),) + tree[own + 1:]
        tree = renumbered(tree, come_to(tree))
    return tree


def thrown_trees(seed, many):
    """Pairs of wide and a tree, of depth to 4, one of one knot among them, and those of the examples."""
    dice = Dice(seed)
    found = [(wide, tree) for wide in (2, 3) for tree in (EARLY, SOME_2, IDLE, AHEAD_TREE, AHEAD_BACK, SHORT)]
    found += [(wide, tree) for wide in (1, 2, 3) for tree in (YES, NO)]
    while len(found) < many:
        wide = (1, 2, 2, 3, 3)[dice.below(5)]
        tree = thrown_tree(dice, wide, 1 + dice.below(4), 2 + dice.below(3))
        gone = {plain_gone(tree, text)[::2] for text in texts_to(wide, 3)}
        if 5 < len(tree) <= 40 and len(gone) > 1 + dice.below(3):
            found.append((wide, tree))
    return found


def texts_of_depth(wide, tree, more=0):
    """All texts with as many letters as tree has ASKS on a way, and more: all that a run can find comes in them."""
    return texts_to(wide, max(max(counts) for counts in counts_ahead(tree)) + more)


def plain_steps(tree, texts):
    """For each knot to which texts come, the set of the places among those it goes on to that they take."""
    steps = {}
    for text in texts:
        way, places, _ = plain_gone(tree, text)
        for own in way:
            knot = tree[own]
            at = 0
            if knot[0] == "order":
                at = which_way(places, knot[1], knot[2])
            steps.setdefault(own, set()).add(at)
    return steps


# Chains.

def is_plain_chain(wide, thing):
    if type(thing) is not tuple or len(thing) != 2 or type(thing[0]) is not tuple or type(thing[1]) is not tuple:
        return False
    sets, marks = thing
    if not all(is_plain_number(own) and 1 <= own <= wide for own in marks):
        return False
    return len(sets) == len(marks) + 1 and all(is_plain_set(wide, own) for own in sets)


def plain_ways(chain, text):
    """All tuples of places by which text fits chain: all tried."""
    sets, marks = chain
    return [places for places in combinations(range(1, len(text) + 1), len(marks)) if is_way(sets, marks, text, places)]


def is_way(sets, marks, text, places):
    if any(text[place - 1] != mark for place, mark in zip(places, marks)):
        return False
    return all(text[place - 1] in sets[len([own for own in places if own < place])]
               for place in range(1, len(text) + 1) if place not in places)


def thrown_chain(dice, wide, marks):
    def some():
        return tuple(letter for letter in range(1, wide + 1) if dice.below(2))
    return tuple(some() for _ in range(marks + 1)), tuple(1 + dice.below(wide) for _ in range(marks))


def thrown_chains(seed, many):
    """Pairs of wide and a chain, of no mark to four."""
    dice = Dice(seed)
    return [(1 + at % 3, thrown_chain(dice, 1 + at % 3, at // 3 % 5)) for at in range(many)]
