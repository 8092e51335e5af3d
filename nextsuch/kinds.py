"""Kinds of machines, and the bars that tell that a machine is not of a kind."""

from nextsuch.classes import parts_to_and_fro
from nextsuch.doings import done_by, is_idempotent, numbers_long, own_doings, span_of, steps_ahead, then
from nextsuch.errors import CanNot, Unfit
from nextsuch.machines import least, mirrored, parting_from, state_after, takes, texts_from, wide_of
from nextsuch.words import is_text

KINDS = ("asks", "backward", "coming", "looks", "onward")


def parting_sides(own, one, other):
    """TEXTS p, q such that of p, a TEXT that does one or other, and q just one is taken; one and other are unlike."""
    state = [at for at, pair in enumerate(zip(one, other)) if pair[0] != pair[1]][0]
    return texts_from(own[0], 0)[state], parting_from(own, one[state], own, other[state])


def unlike_letters(steps):
    """Two TEXTS of the same letters, each one or two, that do unlike things; None if there are none."""
    wide = len(steps[0])
    for one in range(1, wide + 1):
        for other in range(1, one + 1):
            behind = steps[steps[0][one - 1]][other - 1]
            if one == other and behind != steps[0][one - 1]:
                return (one,), (one, one)
            if behind != steps[steps[0][other - 1]][one - 1]:
                return (one, other), (other, one)
    return None


def bar_coming(own, steps, found):
    """A BAR of "coming", None if own is of this KIND."""
    pair = unlike_letters(steps)
    if pair is None:
        return None
    one, other = pair
    ahead, behind = parting_sides(own, done_by(own[0], one), done_by(own[0], other))
    return "coming", ahead + one + behind, ahead + other + behind


def two_of_one(parts):
    """The first two numbers that are of one part, None if there are none."""
    first = {}
    for own, part in enumerate(parts):
        if part in first:
            return first[part], own
        first[part] = own
    return None


def bar_onward(own, steps, found):
    """A BAR of "onward", None if own is of this KIND."""
    # Two own DOINGS are of one onward class exactly if the least MACHINE comes back to a STATE that it left.
    states = two_of_one(parts_to_and_fro(own[0]))
    if states is None:
        return None
    here, there = states
    away, back = texts_from(own[0], here)[there], texts_from(own[0], there)[here]
    return "onward", texts_from(own[0], 0)[here], away, back, parting_from(own, here, own, there)


def bar_backward(own, steps, found):
    """A BAR of "backward", None if own is of this KIND."""
    if two_of_one(parts_to_and_fro(steps_ahead(steps))) is None:
        return None
    # STATES of the mirrored MACHINE are told by the STATES of own from which what was read, turned round, is taken.
    onward = bar_onward(mirrored(own), steps, found)
    return "backward", onward[4][::-1], onward[2][::-1], onward[3][::-1], onward[1][::-1]


def texts_with(steps, letter):
    """For each own DOING, by number, that some TEXT with letter in it has, the least such TEXT."""
    many = len(steps)
    without = [tuple([there + many if own == letter else there for own, there in enumerate(row, start=1)])
               for row in steps]
    beyond = [tuple([there + many for there in row]) for row in steps]
    texts = texts_from(without + beyond, 0)
    return {own - many: text for own, text in texts.items() if own >= many}


def bar_asks(own, steps, found):
    """A BAR of "asks", None if own is of this KIND."""
    # With e x e being e, e x is idempotent, too, and of one onward class with e: so letter by letter all that e is
    # made of may stand between e and e, if each one letter x of it may.
    for letter, number in enumerate(steps[0], start=1):
        for at, text in texts_with(steps, letter).items():
            doing = found[at]
            parted = then(then(doing, found[number]), doing)
            if parted != doing and is_idempotent(doing):
                ahead, behind = parting_sides(own, doing, parted)
                return "asks", ahead, text, (letter,), behind
    return None


def texts_long(steps, number):
    """For each own DOING, by number, that some TEXT of just so many letters has, the least such TEXT."""
    texts = {0: ()}
    for _ in range(number):
        longer = {}
        for own, text in texts.items():
            for letter, there in enumerate(steps[own], start=1):
                if there not in longer:
                    longer[there] = text + (letter,)
        texts = longer
    return texts


def bar_looks(own, steps, found):
    """A BAR of "looks", None if own is of this KIND."""
    size = span_of(steps)
    numbers = numbers_long(steps, size)
    for one in numbers:
        doing = found[one]
        if is_idempotent(doing):
            for other in numbers:
                parted = then(then(doing, found[other]), doing)
                if parted != doing:
                    texts = texts_long(steps, size)
                    ahead, behind = parting_sides(own, doing, parted)
                    return "looks", ahead, texts[one], texts[other], behind
    return None


BARS = {"asks": bar_asks, "backward": bar_backward, "coming": bar_coming, "looks": bar_looks, "onward": bar_onward}


def bar_or_none(kind, own, steps, found):
    """A BAR of own, a least MACHINE with these own DOINGS, of the word kind; None if it is of this KIND."""
    bar_of_kind = BARS[kind]
    return bar_of_kind(own, steps, found)


def bar_asked(machine, kind):
    """A BAR of machine, of the word kind, whatever this is; None if it is of this KIND."""
    if kind not in KINDS:
        raise Unfit()
    own = least(machine)
    steps, found = own_doings(own)
    return bar_or_none(kind, own, steps, found)


def kinds(machine):
    """The set of the KINDS of which machine is."""
    own = least(machine)
    steps, found = own_doings(own)
    return tuple([kind for kind in KINDS if bar_or_none(kind, own, steps, found) is None])


def is_of(machine, kind):
    """Whether machine is of kind."""
    return bar_asked(machine, kind) is None


def bar(machine, kind):
    """A BAR of machine, of the word kind."""
    told = bar_asked(machine, kind)
    if told is None:
        raise CanNot()
    return told


def texts_of_bar(word):
    """How many TEXTS a BAR of this word has."""
    return 2 if word == "coming" else 4


def is_bar_shape(wide, thing):
    """Whether thing is a word of KINDS with as many TEXTS, of letters to wide, as belong there."""
    if not isinstance(thing, tuple) or len(thing) == 0 or thing[0] not in KINDS:
        return False
    return len(thing) == texts_of_bar(thing[0]) + 1 and all([is_text(wide, own) for own in thing[1:]])


def two_of_bar(thing):
    """The two TEXTS of which just one is taken, if thing is a BAR."""
    if thing[0] == "coming":
        return thing[1], thing[2]
    word, ahead, near, far, behind = thing
    if word == "onward" or word == "backward":
        return ahead + behind, ahead + near + behind
    return ahead + near + behind, ahead + near + far + near + behind


def taken_behind(own, text):
    """The tuple that tells of each STATE whether text is taken from there."""
    return tuple([state in own[1] for state in done_by(own[0], text)])


def bears_out(own, thing):
    """Whether thing, of the form of a BAR, has what makes a TREE or a LOOK TREE tell its two TEXTS alike."""
    if thing[0] == "coming":
        return set(thing[1]) == set(thing[2])
    word, ahead, near, far, behind = thing
    if word == "onward":
        return state_after(own, ahead + near + far) == state_after(own, ahead)
    if word == "backward":
        return taken_behind(own, far + near + behind) == taken_behind(own, behind)
    if not is_idempotent(done_by(own[0], near)):
        return False
    if word == "asks":
        return len(set(near + far)) == len(set(near))
    return len(near) == len(far) and len(near) > 0


def is_bar(machine, thing):
    """Whether thing is a BAR of machine."""
    if not is_bar_shape(wide_of(machine), thing):
        return False
    own = least(machine)
    one, other = two_of_bar(thing)
    return takes(own, one) != takes(own, other) and bears_out(own, thing)


def texts_by(bar, number):
    """The pair of TEXTS that a BAR tells by number: no TREE of so few ASKS tells them apart."""
    texts = [tuple(own) for own in bar[1:]]
    if bar[0] == "coming":
        return texts[0], texts[1]
    ahead, near, far, behind = texts
    if bar[0] == "onward":
        return ahead + (near + far) * number + behind, ahead + (near + far) * number + near + behind
    if bar[0] == "backward":
        return ahead + (far + near) * number + behind, ahead + near + (far + near) * number + behind
    if bar[0] == "asks":
        return ahead + near * (2 * number) + behind, ahead + near * number + far + near * number + behind
    if number < 3:
        raise Unfit()
    front = number // 2
    return ahead + near * number + behind, ahead + near * front + far + near * (number - front - 1) + behind
