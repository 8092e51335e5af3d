"""Plain reckoning for the tests of doings, classes and kinds: by trying all, without the program."""

from itertools import product

from tests.plain import KNOWN, Dice, goes_on, plain_least, texts_to

# Machines of the document's examples, and some at the edges.
TWICE = (((1, 0), (2, 0), (2, 2)), (2,))
PAIRS = (((1, 2), (2, 0), (2, 2)), (0,))
SOONER = (((1, 0, 2), (1, 0, 3), (2, 2, 2), (3, 3, 3)), (3,))
AHEAD = (((1, 0), (1, 2), (2, 2)), (2,))
EVEN = (((1, 1), (0, 0)), (0,))
BEGINS = (((1, 2), (1, 1), (2, 2)), (1,))
SOME = (((0, 1), (1, 1)), (1,))
ODD, LAST = (((1, 0), (0, 1)), (1,)), (((0, 1), (0, 1)), (1,))
FAT = (((1, 2), (3, 0), (3, 0), (3, 4), (4, 4), (0, 0)), (3, 4))
EDGES = [(((0,) * wide,), ends) for wide in (1, 2, 3) for ends in ((), (0,))] + [
    (((1, 2), (2, 0), (0, 1)), ()), (((1, 2), (2, 0), (0, 1)), (0, 1, 2)), (((1,), (2,), (0,)), (0,)),
    (((1,), (2,), (2,)), (1,)), (((1, 1, 1), (1, 1, 1)), (0,)), (((1,), (2,), (3,), (4,), (2,)), (0, 4))]

# 8 STATES and less, with exactly 199, 200, 201 and 203 own DOINGS.
WITH_199 = (((2, 4, 3), (4, 2, 4), (2, 1, 0), (0, 2, 0), (3, 2, 3)), (1, 3))
WITH_200 = (((1, 0, 4), (1, 0, 2), (4, 4, 3), (1, 2, 1), (2, 4, 2)), (1,))
WITH_201 = (((4, 2, 1), (2, 1, 2), (4, 1, 3), (3, 4, 2), (4, 3, 4)), (0, 1, 2, 3))
WITH_203 = (((0, 1, 1), (1, 2, 2), (2, 3, 3), (3, 4, 4), (5, 5, 4), (6, 5, 5), (6, 7, 6), (7, 7, 7)), (2, 3, 7))


def ring(many):
    """The machine of one letter that takes the texts whose length is a multiple of many."""
    return tuple(((own + 1) % many,) for own in range(many)), (0,)


def plain_then(one, other):
    return tuple(other[own] for own in one)


def plain_doing(own, text):
    """What text does to the states of own, which is a least machine."""
    return tuple(goes_on(own, state, text) for state in range(len(own[0])))


def plain_doings(own):
    """The own doings of a least machine, each with its least text: all texts of one length after the other."""
    wide = len(own[0][0])
    told = {plain_doing(own, ()): ()}
    level = [()]
    while level:
        following = []
        for text in level:
            for letter in range(1, wide + 1):
                doing = plain_doing(own, text + (letter,))
                if doing not in told:
                    told[doing] = text + (letter,)
                    following.append(text + (letter,))
        level = following
    return told


def plain_power(doing):
    """Done once, twice, ..: the first time that it is idempotent."""
    times, told = 1, doing
    while plain_then(told, told) != told:
        times, told = times + 1, plain_then(told, doing)
    return times, told


def all_within(told):
    """All pairs (one, other) such that one is u then other then v."""
    return {(plain_then(plain_then(u, own), v), own) for own in told for u in told for v in told}


def plain_class(told, doing, back):
    """The class of doing by leading to and fro."""
    def leads(one):
        return {plain_then(own, one) if back else plain_then(one, own) for own in told}
    return tuple(sorted(own for own in leads(doing) if doing in leads(own)))


def plain_long(own, number):
    """The doings of all texts of so many letters, one letter after the other."""
    letters = [plain_doing(own, (letter,)) for letter in range(1, len(own[0][0]) + 1)]
    kept = {plain_doing(own, ())}
    for _ in range(number):
        kept = {plain_then(doing, letter) for doing in kept for letter in letters}
    return kept


def plain_span(own, most):
    """The least number from 1 to most for which it is so; None if there is none."""
    sets = [plain_long(own, 0)]
    letters = [plain_doing(own, (letter,)) for letter in range(1, len(own[0][0]) + 1)]
    for number in range(1, most + 1):
        for _ in (1, 2):
            sets.append({plain_then(doing, letter) for doing in sets[-1] for letter in letters})
        if sets[number] == sets[2 * number]:
            return number
    return None


def classes_by_doing(told, back):
    return {doing: plain_class(told, doing, back) for doing in told}


def plain_falls(own, classes, text, back):
    """The places at which the class falls, by the words of the document."""
    places = []
    for place in range(1, len(text) + 1):
        if back:
            behind, ahead = plain_doing(own, text[place - 1:]), plain_doing(own, text[place:])
        else:
            behind, ahead = plain_doing(own, text[:place]), plain_doing(own, text[:place - 1])
        if behind not in classes[ahead]:
            places.append(place)
    return tuple(places)


def plain_most_falls(own, told, classes, back):
    """The greatest number of falls over all ways down from the class of the empty text."""
    letters = [plain_doing(own, (letter,)) for letter in range(1, len(own[0][0]) + 1)]
    known = {}

    def most(shared_class):
        if shared_class not in known:
            leads = {classes[plain_then(letter, doing) if back else plain_then(doing, letter)]
                     for doing in shared_class for letter in letters}
            known[shared_class] = max([0] + [1 + most(there) for there in leads if there != shared_class])
        return known[shared_class]

    return most(classes[plain_doing(own, ())])


def plain_kinds(own, told):
    """The kinds of a least machine, by the words of section 8 alone, all pairs of doings tried."""
    found = []
    idle = [doing for doing in told if plain_then(doing, doing) == doing]
    within = all_within(told)
    if all(plain_then(plain_then(e, s), e) == e for e in idle for s in told if (e, s) in within):
        found.append("asks")
    if all(len(plain_class(told, doing, True)) == 1 for doing in told):
        found.append("backward")
    letters = [plain_doing(own, (letter,)) for letter in range(1, len(own[0][0]) + 1)]
    if all(plain_then(x, x) == x for x in letters) and all(
            plain_then(x, y) == plain_then(y, x) for x in letters for y in letters):
        found.append("coming")
    long = plain_long(own, plain_span(own, 60))
    if all(plain_then(plain_then(e, s), e) == e for e in long if e in idle for s in long):
        found.append("looks")
    if all(len(plain_class(told, doing, False)) == 1 for doing in told):
        found.append("onward")
    return tuple(found)


def plain_two(bar):
    word, *texts = bar
    if word == "coming":
        return tuple(texts)
    p, x, y, q = texts
    if word in ("onward", "backward"):
        return p + q, p + x + q
    return p + x + q, p + x + y + x + q


def is_plain_bar(machine, thing):
    """Whether thing, a word and texts, is a bar, by the table of section 8."""
    own = plain_least(machine)
    one, other = plain_two(thing)
    if (goes_on(own, 0, one) in own[1]) == (goes_on(own, 0, other) in own[1]):
        return False
    if thing[0] == "coming":
        return {*thing[1]} == {*thing[2]}
    word, p, x, y, q = thing
    if word == "onward":
        return goes_on(own, 0, p + x + y) == goes_on(own, 0, p)
    if word == "backward":
        return all((goes_on(own, state, y + x + q) in own[1]) == (goes_on(own, state, q) in own[1])
                   for state in range(len(own[0])))
    if plain_doing(own, x + x) != plain_doing(own, x):
        return False
    return {*y} <= {*x} if word == "asks" else len(x) == len(y) > 0


def kept_small(machines, most):
    """The machines, each with its least one and its own doings, that have at most so many: one of each least one."""
    kept = {}
    for machine in machines:
        own = plain_least(machine)
        told = plain_doings(own)
        if own not in kept and len(told) <= most:
            kept[own] = machine, own, told
    return list(kept.values())


def some_of_few_states():
    """Machines of one, two and three states: some of all of them."""
    found = []
    for states, wide in product((1, 2, 3), (1, 2, 3)):
        steps = list(product(product(range(states), repeat=wide), repeat=states))
        for at, own in enumerate(steps[::max(1, len(steps) // 50)]):
            found.append((own, ((states - 1,), (0,), (0, states - 1) if states > 1 else ())[at % 3]))
    return found


def thrown_in_order(seed, many):
    """Machines of three to five states whose letters lead on, stay, lead back, or to the first state."""
    dice = Dice(seed)
    found = []
    for at in range(many):
        states, wide = 3 + at % 3, 1 + at // 3 % 3
        steps = []
        for own in range(states):
            beyond = [min(states - 1, own + 1), own, own + dice.below(states - own)]
            choices = (beyond, beyond + [0], beyond + [max(0, own - 1), 0])[at % 7 % 3]
            steps.append(tuple(choices[dice.below(len(choices))] for _ in range(wide)))
        found.append((tuple(steps), tuple(own for own in range(states) if dice.below(2))))
    return found


NAMED = [TWICE, PAIRS, SOONER, AHEAD, EVEN, BEGINS, SOME, ODD, LAST, FAT]
SMALL = kept_small([own for _, own, _ in KNOWN] + NAMED + EDGES + some_of_few_states() + thrown_in_order(21, 300), 32)
TEXTS = {wide: texts_to(wide, {1: 9, 2: 6, 3: 4}[wide]) for wide in (1, 2, 3)}
# The same machines, each with its least one and the kinds that it is of.
SMALL_KINDS = [(machine, own, plain_kinds(own, told)) for machine, own, told in SMALL]
