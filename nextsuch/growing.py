"""Trees grown knot by knot, and from rules that tell how stretches of a text are parted.

What is told of a stretch, of what stands between two spots, is a problem: a number, the place of its rule. A rule is
("told", label): all that can stand there has this label; or ("parted", side, letters, groups, none): the first of
letters is sought from the one end of the stretch on, the front end if side is "next". Without any the problem none is
left, of the same stretch. A group is a triple (letters, inner, rests): if one of these letters is found, inner is the
problem of what was gone over, and at its label rests tells the problem of what is left of the stretch.
"""

from nextsuch.trees import leads_of, renewed, shared, spots_of


def knots_from(start, knot_of):
    """All keys to which ways lead from start, each with its knot, in which keys stand for knots."""
    knots = {}
    left = [start]
    while len(left) > 0:
        own = left.pop()
        if own not in knots:
            knots[own] = knot_of(own)
            left.extend(leads_of(knots[own]))
    return knots


def in_turn(start, knots):
    """The list of all keys, each behind all that lead to it."""
    ahead = {own: 0 for own in knots}
    for knot in knots.values():
        for there in leads_of(knot):
            ahead[there] += 1
    order = [start]
    at = 0
    while at < len(order):
        for there in leads_of(knots[order[at]]):
            ahead[there] -= 1
            if ahead[there] == 0:
                order.append(there)
        at += 1
    return order


def asks_on_ways(order, knots):
    """For each key how many ASKS are asked on the ways to it."""
    asks = {own: 0 for own in order}
    for own in order:
        for there in leads_of(knots[own]):
            asks[there] = asks[own] + int(knots[own][0] == "ask")
    return asks


def tree_of(start, knot_of):
    """The TREE, shared, that is begun at the key start; knot_of(key) tells the knot of key, keys in it for knots."""
    knots = knots_from(start, knot_of)
    order = in_turn(start, knots)
    asks = asks_on_ways(order, knots)
    ones, numbers, kept = {}, {}, []
    for own in reversed(order):
        knot = knots[own]
        leads = [ones[there] for there in leads_of(knot)]
        if knot[0] == "order" and leads[0] == leads[1] and leads[0] == leads[2]:
            ones[own] = leads[0]
        else:
            fresh = renewed(knot, spots_of(knot), leads)
            # Knots that name spots are one only if equally many ASKS are asked ahead of them.
            key = fresh if knot[0] == "say" else (asks[own],) + fresh
            if key not in numbers:
                numbers[key] = len(kept)
                kept.append(fresh)
            ones[own] = numbers[key]
    last = len(kept) - 1
    return shared([renewed(knot, spots_of(knot), [last - there for there in leads_of(knot)])
                   for knot in reversed(kept)])


def key_at(rules, stretch, asks, wanted):
    """The key at which one goes on with stretch, behind so many ASKS; idle ones are asked till there are wanted.

    A stretch is (problem, near, far, behind): what stands between the spots near and far; behind tells the stretch to
    go on with at each label of problem and what is behind that, None if the label is the answer.
    """
    problem, near, far, behind = stretch
    while rules[problem][0] == "told":
        label = rules[problem][1]
        if behind is None:
            return "say", label
        targets, behind = behind
        problem, near, far = targets[label]
    left = problem, near, far, behind
    return ("idle", left, asks, wanted) if asks < wanted else ("seek", left, asks)


def key_found(rules, stretch, group, spot, asks, wanted):
    """The key at which one goes on if spot is the first of letters and of this group."""
    problem, near, far, behind = stretch
    _, inner, rests = rules[problem][3][group]
    if rules[problem][1] == "next":
        targets = tuple([(rest, spot, far) for rest in rests])
        return key_at(rules, (inner, near, spot, (targets, behind)), asks, wanted)
    targets = tuple([(rest, near, spot) for rest in rests])
    return key_at(rules, (inner, spot, far, (targets, behind)), asks, wanted)


def ask_from(rules, stretch, letters, key):
    """The ASK for letters from the end of stretch from which its rule seeks."""
    problem, near, far, _ = stretch
    side = rules[problem][1]
    return "ask", near if side == "next" else far, side, letters, key


def bound_knot(rules, stretch, asks, wanted):
    """The order that tells whether what was asked for last lies within stretch."""
    problem, near, far, behind = stretch
    _, side, _, groups, none = rules[problem]
    spot = asks + 1
    within = "which", stretch, asks, 0
    if len(groups) == 1:
        within = key_found(rules, stretch, 0, spot, asks, wanted)
    beyond = key_at(rules, (none, near, far, behind), asks, wanted)
    if side == "next":
        return "order", spot, far, within, beyond, beyond
    return "order", spot, near, beyond, beyond, within


def same_knot(rules, stretch, asks, group, wanted):
    """The order that tells whether what was found is of group, asked for last; the last group needs no ASK."""
    groups = rules[stretch[0]][3]
    spot = asks - group
    other = "which", stretch, asks, group + 1
    if group + 2 == len(groups):
        other = key_found(rules, stretch, group + 1, spot, asks, wanted)
    return "order", spot, asks + 1, other, key_found(rules, stretch, group, spot, asks, wanted), other


def tree_by(rules, problem, room):
    """The TREE that answers of each TEXT whether its label is 1, problem that of all of it.

    Where a letter has been found there are room ASKS at least for that, idle ones among them: so what is left there is
    one however one came to it, as often as it can be.
    """
    def knot_of(key):
        if key[0] == "say":
            return "say", key[1] == 1
        word, stretch, asks = key[:3]
        if word == "idle":
            return "ask", 1, "next", (1,), key_at(rules, stretch, asks + 1, key[3])
        if word == "seek":
            return ask_from(rules, stretch, rules[stretch[0]][2], ("bound", stretch, asks + 1))
        if word == "bound":
            return bound_knot(rules, stretch, asks, asks - 1 + room)
        group = key[3]
        if word == "which":
            return ask_from(rules, stretch, rules[stretch[0]][3][group][0], ("same", stretch, asks + 1, group))
        return same_knot(rules, stretch, asks, group, asks - 2 - group + room)

    return tree_of(key_at(rules, (problem, 0, 1, None), 0, 0), knot_of)
