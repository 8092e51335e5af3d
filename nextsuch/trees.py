"""Trees of asks: what they are, how one goes through them, and what comes of them."""

from nextsuch.asks import found, is_ask, other_side
from nextsuch.checks import is_number_in, is_row_in


def leads_of(knot):
    """The knots gone on to from knot, in the order of its numbers."""
    if knot[0] == "ask":
        return (knot[4],)
    if knot[0] == "order":
        return tuple(knot[3:])
    return ()


def spots_of(knot):
    """The spots that knot names."""
    if knot[0] == "ask":
        return (knot[1],)
    if knot[0] == "order":
        return tuple(knot[1:3])
    return ()


def is_knot(wide, thing, own, many):
    """Whether thing can be knot number own of so many, whatever number its spots are."""
    if not isinstance(thing, tuple) or len(thing) == 0:
        return False
    if thing[0] == "say":
        return len(thing) == 2 and isinstance(thing[1], bool)
    if thing[0] == "ask":
        return len(thing) == 5 and is_ask(wide, thing[1:4]) and is_number_in(thing[4], own + 1, many - 1)
    if thing[0] == "order":
        return len(thing) == 6 and is_row_in(thing[3:], own + 1, many - 1) and thing[1] != thing[2]
    return False


def are_ways_right(tree):
    """Whether each knot is come to, each that names spots with equally many ASKS asked, and these spots are there."""
    fewest, most = {0: 0}, {0: 0}
    for own, knot in enumerate(tree):
        if own not in most:
            return False
        if knot[0] != "say" and fewest[own] != most[own]:
            return False
        if not is_row_in(spots_of(knot), 0, most[own] + 1):
            return False
        behind = most[own] + int(knot[0] == "ask")
        for there in leads_of(knot):
            fewest[there] = min(fewest.get(there, behind), behind)
            most[there] = max(most.get(there, behind), behind)
    return True


def is_tree(wide, thing):
    """Whether thing is a TREE of letters to wide."""
    if not isinstance(thing, tuple) or len(thing) == 0:
        return False
    if not all([is_knot(wide, knot, own, len(thing)) for own, knot in enumerate(thing)]):
        return False
    return are_ways_right(thing)


def asks_ahead(tree):
    """The tuple with, for each knot, the greatest number of ASKS on a way to it."""
    counts = [0] * len(tree)
    for own, knot in enumerate(tree):
        for there in leads_of(knot):
            counts[there] = max(counts[there], counts[own] + int(knot[0] == "ask"))
    return tuple(counts)


def depth(tree):
    """The greatest number of ASKS on a way."""
    return max(asks_ahead(tree))


def manners(tree):
    """The set of those of "backward", "onward" that tree is."""
    sides = [knot[2] for knot in tree if knot[0] == "ask"]
    return tuple([manner for manner, barred in (("backward", "next"), ("onward", "last")) if barred not in sides])


def which_way(here, there):
    """0 if here lies ahead of there, 1 if they are the same, 2 if it lies behind."""
    return int(here >= there) + int(here > there)


def gone_through(tree, text):
    """The list of the knots to which one comes with text, and the list of the spots at last."""
    way, spots = [0], [0, len(text) + 1]
    knot = tree[0]
    while knot[0] != "say":
        leads = leads_of(knot)
        if knot[0] == "ask":
            spots.append(found(text, spots[knot[1]], knot[2], knot[3]))
            way.append(leads[0])
        else:
            way.append(leads[which_way(spots[knot[1]], spots[knot[2]])])
        knot = tree[way[-1]]
    return way, spots


def run(tree, text):
    """The pair of the tuple of the spots at last, and of what tree answers."""
    way, spots = gone_through(tree, text)
    return tuple(spots), tree[way[-1]][1]


def answer(tree, text):
    """What tree answers of text."""
    return run(tree, text)[1]


def way_of(tree, text):
    """The tuple of the knots to which one comes with text."""
    return tuple(gone_through(tree, text)[0])


def renewed(knot, spots, leads):
    """The knot that asks of spots, or orders them, as knot does, and goes on to leads."""
    if knot[0] == "ask":
        return "ask", spots[0], knot[2], tuple(knot[3]), leads[0]
    if knot[0] == "order":
        return ("order",) + tuple(spots) + tuple(leads)
    return "say", knot[1]


def one_by_one(tree):
    """The knots that are left if those that do the same are one: first those gone on to; and the number of each."""
    counts = asks_ahead(tree)
    ones = [0] * len(tree)
    numbers, kept = {}, []
    for own in reversed(range(len(tree))):
        knot = renewed(tree[own], spots_of(tree[own]), [ones[there] for there in leads_of(tree[own])])
        key = knot if knot[0] == "say" else (counts[own],) + knot
        if key not in numbers:
            numbers[key] = len(kept)
            kept.append(knot)
        ones[own] = numbers[key]
    return kept


def knots_ahead(kept):
    """For each of kept, of which the last one is begun at, how many knots are ahead of it on the longest way."""
    ahead = [0] * len(kept)
    for own in reversed(range(len(kept))):
        for there in leads_of(kept[own]):
            ahead[there] = max(ahead[there], ahead[own] + 1)
    return ahead


def in_order(kept):
    """The numbers of kept by how many knots are ahead, those with equally many as they are first gone on to."""
    ahead = knots_ahead(kept)
    rows = [[] for _ in range(max(ahead) + 1)]
    rows[0].append(len(kept) - 1)
    seen = {}
    order = []
    for at in range(len(rows)):
        for own in list(rows[at]):
            order.append(own)
            for there in leads_of(kept[own]):
                if there not in seen:
                    seen[there] = True
                    rows[ahead[there]].append(there)
    return order


def shared(tree):
    """The TREE in which knots that do the same step by step are one, in the order of the document."""
    kept = one_by_one(tree)
    order = in_order(kept)
    numbers = {own: at for at, own in enumerate(order)}
    return tuple([renewed(kept[own], spots_of(kept[own]), [numbers[there] for there in leads_of(kept[own])])
                  for own in order])


def what_is_left(yes, asks, word):
    """What stands where one says yes behind so many ASKS: what is told at once, or other, as it is or turned."""
    if (word == "both" and not yes) or (word == "either" and yes):
        return "say", yes, False
    return "other", asks, word == "unlike" and yes


def spots_behind(knot, asks):
    """The spots that knot names, the found ones numbered behind those of so many ASKS."""
    return [spot if spot < 2 else spot + asks for spot in spots_of(knot)]


def knots_left(left, first, other):
    """The knots that stand for what is left, from number first on."""
    word, asks, is_turned = left
    if word == "say":
        return [("say", asks)]
    own = tree_contrary(other) if is_turned else other
    return [renewed(knot, spots_behind(knot, asks), [there + first for there in leads_of(knot)]) for knot in own]


def tree_joined(one, other, word):
    """The TREE that answers what word says of the answers of both, and asks as one does, then as other."""
    counts = asks_ahead(one)
    asking = [own for own, knot in enumerate(one) if knot[0] != "say"]
    numbers = {own: at for at, own in enumerate(asking)}
    firsts, behind = {}, []

    def number_left(yes, asks):
        left = what_is_left(yes, asks, word)
        if left not in firsts:
            firsts[left] = len(asking) + len(behind)
            behind.extend(knots_left(left, firsts[left], other))
        return firsts[left]

    knots = []
    for own in asking:
        asks = counts[own] + int(one[own][0] == "ask")
        leads = [numbers[there] if there in numbers else number_left(one[there][1], asks)
                 for there in leads_of(one[own])]
        knots.append(renewed(one[own], spots_of(one[own]), leads))
    if len(asking) == 0:
        number_left(one[0][1], 0)
    return shared(knots + behind)


def tree_contrary(tree):
    """The TREE with each yes turned, its knots numbered as they are."""
    return tuple([("say", not knot[1]) if knot[0] == "say" else renewed(knot, spots_of(knot), leads_of(knot))
                  for knot in tree])


def mirrored_knot(knot):
    """The knot that does of the text turned round what knot does of the text."""
    spots = [1 - spot if spot < 2 else spot for spot in spots_of(knot)]
    turned = renewed(knot, spots, leads_of(knot)[::-1])
    if turned[0] == "ask":
        return turned[0], turned[1], other_side(turned[2]), turned[3], turned[4]
    return turned


def tree_mirrored(tree):
    """The TREE that answers of each TEXT as tree does of it turned round, its knots numbered as they are."""
    return tuple([mirrored_knot(knot) for knot in tree])
