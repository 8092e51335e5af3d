"""Plain reckoning for the tests: texts, machines and things of any kind, told without the program."""

from itertools import product

WORDS = ("both", "either", "unlike")

# Machines, each with a plain telling of which texts it takes, and how many letters it reads.
KNOWN = (
    ("odd", (((1, 0), (0, 1)), (1,)), lambda text: text.count(1) % 2 == 1),
    ("last", (((0, 1), (0, 1)), (1,)), lambda text: text[-1:] == (2,)),
    ("fat", (((1, 2), (3, 0), (3, 0), (3, 4), (4, 4), (0, 0)), (3, 4)), lambda text: 1 in text[1::2]),
    ("first", (((1, 2), (1, 1), (2, 2)), (1,)), lambda text: text[:1] == (1,)),
    ("some", (((0, 1), (1, 1)), (1,)), lambda text: 2 in text),
    ("none at all", (((0,),), ()), lambda text: False),
    ("all of one letter", (((0,),), (0,)), lambda text: True),
    ("nothing, in three states", (((1, 2), (2, 0), (0, 1)), ()), lambda text: False),
    ("everything, in three states", (((1, 2, 0), (2, 0, 1), (0, 1, 2)), (0, 1, 2)), lambda text: True),
    ("empty alone", (((1, 1, 1), (1, 1, 1)), (0,)), lambda text: text == ()),
    ("threes", (((1,), (2,), (0,)), (0,)), lambda text: len(text) % 3 == 0),
    ("third from behind", (
        ((0, 1), (2, 3), (4, 5), (6, 7), (0, 1), (2, 3), (4, 5), (6, 7)), (4, 5, 6, 7)),
        lambda text: len(text) > 2 and text[-3] == 2),
    ("never come to", (((0, 0, 0), (0, 1, 0), (2, 2, 1)), (1, 2)), lambda text: False),
    ("sooner", (((1, 0, 2), (1, 0, 3), (2, 2, 2), (3, 3, 3)), (3,)),
        lambda text: 3 in text and text[:text.index(3)][-1:] == (1,)),
)


class Dice:
    """Numbers that look thrown, the same ones in each run."""

    def __init__(self, seed):
        self.state = seed * 2862933555777941757 + 3037000493

    def below(self, bound):
        self.state = (self.state * 6364136223846793005 + 1442695040888963407) % 2 ** 64
        return (self.state >> 33) % bound


def texts_to(wide, longest):
    """All texts of at most longest letters, from the least on."""
    return [text for size in range(longest + 1) for text in product(range(1, wide + 1), repeat=size)]


def all_letters(wide):
    """All sets of letters to wide, not ()."""
    kept = [[letter for letter in range(1, wide + 1) if bits >> letter & 1] for bits in range(2, 2 ** (wide + 1), 2)]
    return [tuple(own) for own in kept]


def turned_round(text):
    return tuple(reversed(text))


def all_machines(states, wide):
    """All machines of so many states that read so many letters."""
    rows = list(product(range(states), repeat=wide))
    all_ends = [tuple(own for own in range(states) if bits >> own & 1) for bits in range(2 ** states)]
    return [(steps, ends) for steps in product(rows, repeat=states) for ends in all_ends]


def thrown_machine(dice, states, wide):
    steps = tuple(tuple(dice.below(states) for _ in range(wide)) for _ in range(states))
    return steps, tuple(own for own in range(states) if dice.below(2))


def thrown_machines(seed, many):
    """Machines of one to eight states that read one to three letters."""
    dice = Dice(seed)
    return [thrown_machine(dice, 1 + at % 8, 1 + at // 8 % 3) for at in range(many)]


def blown_up(dice, machine, states):
    """A machine alike to machine, with so many states: some are alike, and some may never be come to."""
    steps, ends = machine
    images = list(range(len(steps))) + [dice.below(len(steps)) for _ in range(states - len(steps))]
    wide = len(steps[0])
    shown = [[there for there in range(states) if images[there] == own] for own in range(len(steps))]

    def any_of(own):
        return shown[own][dice.below(len(shown[own]))]

    new_steps = tuple(tuple(any_of(steps[own][at]) for at in range(wide)) for own in images)
    return new_steps, tuple(there for there in range(states) if images[there] in ends)


def goes_on(machine, state, text):
    for letter in text:
        state = machine[0][state][letter - 1]
    return state


def plain_takes(machine, text):
    return goes_on(machine, 0, text) in machine[1]


def plain_least(machine):
    """The least machine as the document says it: by what all texts do, tried from the least on.

    Of n states, two that are not gone on from alike are parted by n - 2 letters, and all that are come to are so by
    n - 1 letters.
    """
    steps, ends = machine
    tries = texts_to(len(steps[0]), max(0, len(steps) - 2))
    told = [tuple(goes_on(machine, own, text) in ends for text in tries) for own in range(len(steps))]
    firsts = {}
    for text in texts_to(len(steps[0]), len(steps) - 1):
        state = goes_on(machine, 0, text)
        firsts.setdefault(told[state], state)
    numbers = {own: at for at, own in enumerate(firsts)}
    new_steps = tuple(tuple(numbers[told[there]] for there in steps[state]) for state in firsts.values())
    return new_steps, tuple(at for at, state in enumerate(firsts.values()) if state in ends)


def plain_word(word, one, other):
    return {"both": one and other, "either": one or other, "unlike": one != other}[word]


def plain_parting(one, other):
    """The least text that just one of both takes, None if there is none: walked with both, text by text."""
    level = [((), 0, 0)]
    seen = {(0, 0)}
    while level:
        for text, here, there in level:
            if (here in one[1]) != (there in other[1]):
                return text
        following = []
        for text, here, there in level:
            for letter in range(1, len(one[0][0]) + 1):
                pair = one[0][here][letter - 1], other[0][there][letter - 1]
                if pair not in seen:
                    seen.add(pair)
                    following.append((text + (letter,),) + pair)
        level = following
    return None


def plain_product(one, other, word):
    """A machine of all pairs of states that takes what word says; the pair of i and j is state i * n + j."""
    many = len(other[0])
    pairs = [(here, there) for here in range(len(one[0])) for there in range(many)]
    steps = tuple(tuple(a * many + b for a, b in zip(one[0][here], other[0][there])) for here, there in pairs)
    ends = [at for at, (here, there) in enumerate(pairs) if plain_word(word, here in one[1], there in other[1])]
    return steps, tuple(ends)


def is_plainly_least(machine):
    """Whether all states are come to, in the order of the texts, and each two are parted by some text."""
    steps, ends = machine
    first_come, at = [0], 0
    while at < len(first_come):
        for there in steps[first_come[at]]:
            if there not in first_come:
                first_come.append(there)
        at += 1
    if first_come != list(range(len(steps))):
        return False
    pairs = [(one, other) for one in range(len(steps)) for other in range(one)]
    parted = {pair for pair in pairs if (pair[0] in ends) != (pair[1] in ends)}
    more = True
    while more:
        more = [(one, other) for one, other in pairs if (one, other) not in parted and any(
            (max(a, b), min(a, b)) in parted for a, b in zip(steps[one], steps[other]))]
        parted.update(more)
    return len(parted) == len(pairs)


def takes_turned(machine, other):
    """Whether other takes just what machine takes, turned round: walked with the set of states that lead to an end."""
    wide = len(machine[0][0])
    start = frozenset(machine[1]), 0
    seen, left = {start}, [start]
    while left:
        states, there = left.pop()
        if (0 in states) != (there in other[1]):
            return False
        for at in range(wide):
            ahead = frozenset(own for own, row in enumerate(machine[0]) if row[at] in states)
            pair = ahead, other[0][there][at]
            if pair not in seen:
                seen.add(pair)
                left.append(pair)
    return True


def nested(depth, inner, kind):
    """inner within so many tuples or lists of one."""
    for _ in range(depth):
        inner = kind([inner])
    return inner


# Things of every kind of which a thing may be built.
ODD_THINGS = (
    None, True, False, -1, 0, 1, 2, 3, 4, 61, 10 ** 40, -10 ** 40, "", "1", "put", "drop", "turn", "next", "(1,)",
    (), (1,), (0,), (True,), (False,), (1, 2), (2, 1), (1, 1), ("1",), (None,), ((),), ((1,),), ([1],), ([],),
    [], [1], [1, 2], [[1]], [(1,)], [True], [None], (1, (1,)), (1, [1]), (1, None), (1, True), (1, "2"), (0, 1),
    nested(100, 1, tuple), nested(100, 1, list), nested(99, (), tuple), (1, nested(99, 2, tuple)),
    (nested(99, 1, list),), ("put", 1, 1), ("drop", 1), ["drop", 1], (((0,),), ()), (((0, 0),), (0,)),
)


def swapped(thing, others):
    """All that thing becomes if it, or one value within it at any depth, is one of others instead."""
    yield from others
    if isinstance(thing, (tuple, list)):
        for at, inner in enumerate(thing):
            for new in swapped(inner, others):
                yield type(thing)([*thing[:at], new, *thing[at + 1:]])


def resized(thing):
    """All that thing becomes if one value within it, at any depth, is left out, or stands twice, or if two change."""
    if isinstance(thing, (tuple, list)):
        for at, inner in enumerate(thing):
            yield type(thing)([*thing[:at], *thing[at + 1:]])
            yield type(thing)([*thing[:at], inner, *thing[at:]])
            if at:
                yield type(thing)([*thing[:at - 1], inner, thing[at - 1], *thing[at + 1:]])
            for new in resized(inner):
                yield type(thing)([*thing[:at], new, *thing[at + 1:]])


def listed(value, told):
    """value with lists for the tuples at the depths d of which told(d) is so, tuples for lists there, too."""
    if isinstance(value, (tuple, list)):
        inner = [listed(own, lambda depth: told(depth + 1)) for own in value]
        return inner if told(0) else tuple(inner)
    return value


# Which depths are lists: all, the outer ones, the inner ones, every other one.
LISTINGS = (lambda depth: True, lambda depth: depth == 0, lambda depth: depth == 1, lambda depth: depth > 0,
            lambda depth: depth == 2, lambda depth: depth < 2, lambda depth: False)
