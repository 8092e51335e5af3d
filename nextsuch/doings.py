"""What texts do to the states of a machine: its own doings, their powers, what they are made of."""

from math import lcm

from nextsuch.checks import is_number
from nextsuch.errors import CanNot, TooMuch, Unfit
from nextsuch.machines import explored, least, texts_from

MOST_DOINGS = 200
MOST_SPAN = 60


def then(one, other):
    """What is done by one and then other."""
    return tuple([other[state] for state in one])


def does_nothing(many):
    """The DOING of the empty TEXT, of so many STATES."""
    return tuple(range(many))


def done_by(steps, text):
    """What text does to the STATES of steps."""
    states = does_nothing(len(steps))
    for letter in text:
        states = tuple([steps[state][letter - 1] for state in states])
    return states


def doing_of(machine, text):
    """The DOING of text, of the STATES of the least MACHINE."""
    return done_by(least(machine)[0], text)


def own_doings(machine, most=MOST_DOINGS):
    """The steps of the own DOINGS by one letter more, numbered as their least TEXTS come, and the list of them.

    Raise TooMuch if there are more than most.
    """
    steps = least(machine)[0]
    letters = list(zip(*steps))

    def go_on(doing, letter):
        return then(doing, letters[letter - 1])

    return explored(len(letters), does_nothing(len(steps)), go_on, most)


def number_of(found, doing):
    """The number of doing, whatever it is, among the DOINGS found; None if it is none of them."""
    if not isinstance(doing, (list, tuple)) or not all([is_number(own) for own in doing]):
        return None
    if tuple(doing) not in found:
        return None
    return found.index(tuple(doing))


def is_idempotent(doing):
    """Whether done twice it does what it does once."""
    return then(doing, doing) == tuple(doing)


def doings(machine):
    """The set of all own DOINGS."""
    return tuple(sorted(own_doings(machine)[1]))


def idempotents(machine):
    """The set of the idempotent own DOINGS."""
    return tuple([doing for doing in doings(machine) if is_idempotent(doing)])


def word_for(machine, doing):
    """The least TEXT with this DOING."""
    steps, found = own_doings(machine)
    number = number_of(found, doing)
    if number is None:
        raise CanNot()
    return texts_from(steps, 0)[number]


def way_round(doing, state):
    """How often doing leads on from state till it is on a ring, and how many STATES this ring has."""
    times = {}
    while state not in times:
        times[state] = len(times)
        state = doing[state]
    return times[state], len(times) - times[state]


def done_times(doing, times):
    """What is done by doing so many times."""
    told = does_nothing(len(doing))
    doubled = tuple(doing)
    while times > 0:
        if times % 2 == 1:
            told = then(told, doubled)
        doubled = then(doubled, doubled)
        times = times // 2
    return told


def power_of(doing):
    """The pair of the least number from 1 of times to be idempotent, and of what is done then."""
    # Done twice it does the same exactly if all STATES have come to their rings, and all rings have come round. The
    # number may be far too great to be counted up to.
    longest, rounds = 1, 1
    for state in range(len(doing)):
        ahead, ring = way_round(doing, state)
        longest = max(longest, ahead)
        rounds = lcm(rounds, ring)
    times = (longest + rounds - 1) // rounds * rounds
    return times, done_times(doing, times)


def steps_ahead(steps):
    """For each own DOING, by number, the numbers of what is done with one letter ahead of it."""
    # A letter ahead of a TEXT and one behind it may be put there in either order.
    ahead = {0: steps[0]}
    for own, row in enumerate(steps):
        for at, there in enumerate(row):
            if there not in ahead:
                ahead[there] = tuple([steps[longer][at] for longer in ahead[own]])
    return [ahead[own] for own in range(len(steps))]


def is_within(machine, one, other):
    """Whether one is u then other then v for some own DOINGS u, v."""
    steps, found = own_doings(machine)
    inner, outer = number_of(found, other), number_of(found, one)
    if inner is None or outer is None:
        raise Unfit()
    both_sides = [behind + ahead for behind, ahead in zip(steps, steps_ahead(steps))]
    return outer in texts_from(both_sides, inner)


def with_one_more(steps, numbers):
    """The set of the numbers of the DOINGS that come of those of numbers by one letter more."""
    return tuple(sorted({there for own in numbers for there in steps[own]}))


def numbers_long(steps, number):
    """The set of the numbers of the DOINGS of all TEXTS of just so many letters."""
    # What comes by one letter more hangs on the set alone: from where one comes again all come again.
    sets = [(0,)]
    first = {(0,): 0}
    while len(sets) <= number:
        following = with_one_more(steps, sets[-1])
        if following in first:
            start = first[following]
            return sets[start + (number - start) % (len(sets) - start)]
        first[following] = len(sets)
        sets.append(following)
    return sets[number]


def doings_long(machine, number):
    """The set of the DOINGS of all TEXTS of just so many letters."""
    steps, found = own_doings(machine)
    return tuple(sorted([found[own] for own in numbers_long(steps, number)]))


def span_of(steps):
    """The least number from 1 of letters the TEXTS of which do what those of twice as many do."""
    sets = [(0,)]
    for number in range(1, MOST_SPAN + 1):
        sets.append(with_one_more(steps, sets[-1]))
        sets.append(with_one_more(steps, sets[-1]))
        if sets[number] == sets[2 * number]:
            return number
    raise TooMuch()


def span(machine):
    """The span of machine."""
    return span_of(own_doings(machine)[0])
