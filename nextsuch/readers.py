"""Machines that read texts in which the spots named further on are marked: one for each knot of a tree.

Spots are told by masks: spot number n is the bit 1 << n. A reader is a triple (live, begins, states): live the mask of
the found spots that the knot, or one behind it, names; begins tells, for each mask of those at the front, the number of
the state to begin in; a state is a triple (awaited, is_taking, moves): the mask of the live spots not yet come to,
whether the text is answered True if it ends there and all awaited ones are at the back, and for each letter, if it
stands at the next place, the state to go on in for each mask of the awaited ones that are at this place, too.

Not all masks are told: allowed tells which spots can be at the front, and at a place with letter 1, 2, ..
"""

from nextsuch.machines import finest_parts
from nextsuch.trees import asks_ahead, leads_of

FRONT = 1
BOTH_ENDS = 3


def spots_allowed(wide, tree, counts):
    """The list of the masks of the found spots that can be at the front, and at a place with letter 1, 2, .."""
    allowed = [0] * (wide + 1)
    for count, knot in zip(counts, tree):
        if knot[0] == "ask":
            # What is asked for on side "next" lies behind the front.
            places = tuple(knot[3]) if knot[2] == "next" else (0,) + tuple(knot[3])
            for place in places:
                allowed[place] = allowed[place] | 1 << (count + 2)
    return allowed


def masks_within(mask):
    """The list, ascending, of the masks that have no bit but those of mask."""
    told = [0]
    bit = 1
    while bit <= mask:
        if mask & bit != 0:
            told = told + [own | bit for own in told]
        bit = bit << 1
    return told


def states_found(allowed, starts, go_on, is_taking):
    """The states to begin in and the list of all that are come to from starts, numbered as they are come to.

    What stands for a state begins with what it awaits; go_on(own, seen, letter) tells what is come to from own by
    letter, seen the mask of the spots there.
    """
    found, numbers = [], {}

    def number_of(own):
        if own not in numbers:
            numbers[own] = len(found)
            found.append(own)
        return numbers[own]

    begins = {seen: number_of(start) for seen, start in starts.items()}
    states = []
    while len(states) < len(found):
        own = found[len(states)]
        moves = [{seen: number_of(go_on(own, seen, letter)) for seen in masks_within(own[0] & allowed[letter])}
                 for letter in range(1, len(allowed))]
        states.append((own[0], is_taking(own), moves))
    return begins, states


def parts_of_states(states):
    """For each state the number of its part: of one part are those that await the same and are gone on from alike."""
    layers = {}
    for own, (awaited, _, _) in enumerate(states):
        layers.setdefault(awaited, []).append(own)
    parts = [0] * len(states)
    many = 0
    # Where a spot is come to fewer are awaited: so all parts gone on to by such a step are known before.
    for awaited in sorted(layers):
        layer = layers[awaited]
        places = {own: at for at, own in enumerate(layer)}
        keys = [(states[own][1],) + tuple([parts[there] for move in states[own][2] for seen, there in move.items()
                                           if seen > 0]) for own in layer]
        told = finest_parts([[places[move[0]] for move in states[own][2]] for own in layer], keys)
        for own, part in zip(layer, told):
            parts[own] = many + part
        many += max(told) + 1
    return parts


def least_reader(live, begins, states):
    """The reader with as few states as can be, numbered as they are first come to."""
    parts = parts_of_states(states)
    numbers, firsts = {}, []

    def number_of(own):
        if parts[own] not in numbers:
            numbers[parts[own]] = len(firsts)
            firsts.append(own)
        return numbers[parts[own]]

    told_begins = {seen: number_of(own) for seen, own in begins.items()}
    told = []
    while len(told) < len(firsts):
        awaited, is_taking, moves = states[firsts[len(told)]]
        told.append((awaited, is_taking, [{seen: number_of(there) for seen, there in move.items()} for move in moves]))
    return live, told_begins, told


def built(allowed, live, start_at, go_on, is_taking):
    """The reader of what is come to; start_at(seen) tells where one begins if seen are the live spots at the front."""
    starts = {seen: start_at(seen) for seen in masks_within(live & allowed[0])}
    begins, states = states_found(allowed, starts, go_on, is_taking)
    return least_reader(live, begins, states)


def say_reader(wide, yes):
    """The reader of a knot that says yes."""
    return 0, {0: 0}, [(0, yes, [{0: 0} for _ in range(wide)])]


def gone_on(reader, own, seen, letter):
    """The state of reader to go on in from state own, whatever else than its live spots seen tells of, too."""
    return reader[2][own][2][letter - 1][seen & reader[0]]


def onward_reader(allowed, behind, spot, own_mask, letters):
    """The reader of an ASK on side "next" that finds the spot of own_mask, behind the reader of the knot behind it."""
    spot_mask = 1 << spot
    live = (behind[0] & ~own_mask) | (spot_mask & ~BOTH_ENDS)

    # Behind what is awaited: 0 until the spot is come to that is asked from, 1 until one of letters is found, then 2.
    def start_at(seen):
        return live & ~seen, int((seen | FRONT) & spot_mask != 0), behind[1][seen & behind[0]]

    def go_on(own, seen, letter):
        awaited, stage, state = own
        if stage == 1 and letter in letters:
            return awaited & ~seen, 2, gone_on(behind, state, seen | own_mask, letter)
        if stage == 0 and seen & spot_mask != 0:
            stage = 1
        return awaited & ~seen, stage, gone_on(behind, state, seen, letter)

    def is_taking(own):
        return behind[2][own[2]][1]

    return built(allowed, live, start_at, go_on, is_taking)


def backward_reader(allowed, behind, spot, own_mask, letters):
    """The reader of an ASK on side "last" that finds the spot of own_mask, behind the reader of the knot behind it."""
    spot_mask = 1 << spot
    live = (behind[0] & ~own_mask) | (spot_mask & ~BOTH_ENDS)

    # Behind what is awaited: the state if what is found is the last one up to here, then the state if it is still to
    # come, -1 once it can not come any more.
    def start_at(seen):
        inner = seen & behind[0]
        later = -1 if (seen | FRONT) & spot_mask != 0 else behind[1][inner]
        return live & ~seen, behind[1][inner | own_mask], later

    def go_on(own, seen, letter):
        awaited, last, later = own
        there = gone_on(behind, last, seen, letter)
        if later < 0 or seen & spot_mask != 0:
            return awaited & ~seen, there, -1
        if letter in letters:
            there = gone_on(behind, later, seen | own_mask, letter)
        return awaited & ~seen, there, gone_on(behind, later, seen, letter)

    def is_taking(own):
        return behind[2][own[1]][1]

    return built(allowed, live, start_at, go_on, is_taking)


def order_reader(allowed, readers, one, other):
    """The reader of a knot that orders spots one and other, readers those of the knots ahead, same, behind."""
    one_mask, other_mask = 1 << one, 1 << other
    live = ((one_mask | other_mask) & ~BOTH_ENDS) | readers[0][0] | readers[1][0] | readers[2][0]

    # Behind what is awaited: pairs of the number of a reader and its state, of all three until the order is known.
    def left(awaited, seen, pairs):
        if len(pairs) == 3 and seen & (one_mask | other_mask) != 0:
            at = 1 + int(seen & one_mask == 0) - int(seen & other_mask == 0)
            return awaited & ~seen, (pairs[at],)
        return awaited & ~seen, pairs

    def start_at(seen):
        pairs = tuple([(at, reader[1][seen & reader[0]]) for at, reader in enumerate(readers)])
        return left(live, seen | FRONT, pairs)

    def go_on(own, seen, letter):
        awaited, pairs = own
        return left(awaited, seen, tuple([(at, gone_on(readers[at], state, seen, letter)) for at, state in pairs]))

    # Both at the back are at one end: of three pairs the one in the middle tells.
    def is_taking(own):
        at, state = own[1][len(own[1]) // 2]
        return readers[at][2][state][1]

    return built(allowed, live, start_at, go_on, is_taking)


def reader_of(wide, tree):
    """The reader of knot 0 of tree, which awaits nothing."""
    counts = asks_ahead(tree)
    allowed = spots_allowed(wide, tree, counts)
    readers = {}
    for own in reversed(range(len(tree))):
        knot = tree[own]
        behind = [readers[there] for there in leads_of(knot)]
        if knot[0] == "say":
            readers[own] = say_reader(wide, knot[1])
        elif knot[0] == "order":
            readers[own] = behind[0]
            if behind[0] != behind[1] or behind[0] != behind[2]:
                readers[own] = order_reader(allowed, behind, knot[1], knot[2])
        else:
            # A spot that no later knot names can be forgotten.
            readers[own] = behind[0]
            own_mask = 1 << (counts[own] + 2)
            if behind[0][0] & own_mask != 0:
                ask_reader = onward_reader if knot[2] == "next" else backward_reader
                readers[own] = ask_reader(allowed, behind[0], knot[1], own_mask, knot[3])
    return readers[0]
