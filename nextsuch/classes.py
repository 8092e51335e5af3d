"""Classes of doings that lead to one another, onward and backward, and where they fall."""

from nextsuch.doings import number_of, own_doings, steps_ahead
from nextsuch.errors import Unfit
from nextsuch.machines import numbered


def come_to(leads):
    """For each number the numbers that are come to from it, itself too, as the bits of one number."""
    marks = [1 << own for own in range(len(leads))]
    more = True
    while more:
        more = False
        for own in reversed(range(len(leads))):
            told = marks[own]
            for there in leads[own]:
                told = told | marks[there]
            if told != marks[own]:
                marks[own] = told
                more = True
    return marks


def parts_to_and_fro(leads):
    """For each number that of its part: of one part are those that lead to one another, on whatever way."""
    # Two that lead to one another lead to the same ones; and each leads to itself.
    return numbered(come_to(leads))


def own_number(found, doing):
    """The number of doing among the own DOINGS found."""
    number = number_of(found, doing)
    if number is None:
        raise Unfit()
    return number


def class_of(found, leads, number):
    """The set of the DOINGS that are of one class with that of number."""
    parts = parts_to_and_fro(leads)
    return tuple(sorted([doing for doing, part in zip(found, parts) if part == parts[number]]))


def onward_class(machine, doing):
    """The set of the DOINGS of its onward class."""
    steps, found = own_doings(machine)
    return class_of(found, steps, own_number(found, doing))


def backward_class(machine, doing):
    """The set of the DOINGS of its backward class."""
    steps, found = own_doings(machine)
    return class_of(found, steps_ahead(steps), own_number(found, doing))


def both_ways(machine, doing):
    """The set of the DOINGS that are both of its onward and of its backward class."""
    backward = backward_class(machine, doing)
    return tuple([own for own in onward_class(machine, doing) if own in backward])


def letters_kept(leads, parts, number):
    """The set of the letters that lead from number to one of its part."""
    return tuple([letter for letter, there in enumerate(leads[number], start=1) if parts[there] == parts[number]])


def keeping(machine, doing):
    """The set of the letters that keep doing."""
    steps, found = own_doings(machine)
    number = own_number(found, doing)
    return letters_kept(steps, parts_to_and_fro(steps), number)


def keeping_back(machine, doing):
    """The set of the letters that keep doing from behind."""
    steps, found = own_doings(machine)
    number = own_number(found, doing)
    ahead = steps_ahead(steps)
    return letters_kept(ahead, parts_to_and_fro(ahead), number)


def counts_fallen(leads, letters):
    """The list of how many letters have been read where the class falls, letter by letter."""
    parts = parts_to_and_fro(leads)
    counts = []
    own = 0
    for count, letter in enumerate(letters, start=1):
        there = leads[own][letter - 1]
        if parts[there] != parts[own]:
            counts.append(count)
        own = there
    return counts


def falls(machine, text):
    """The set of the places at which the onward class falls."""
    return tuple(counts_fallen(own_doings(machine)[0], text))


def falls_back(machine, text):
    """The set of the places at which the backward class falls."""
    counts = counts_fallen(steps_ahead(own_doings(machine)[0]), text[::-1])
    return tuple([len(text) + 1 - count for count in reversed(counts)])


def most_from(leads, parts):
    """For each number the greatest number of falls on a way from it on."""
    most = [0] * len(leads)
    more = True
    while more:
        more = False
        for own in reversed(range(len(leads))):
            told = max([most[there] + int(parts[there] != parts[own]) for there in leads[own]])
            if told != most[own]:
                most[own] = told
                more = True
    return most


def most_on_a_way(leads):
    """The greatest number of falls on a way from 0 on."""
    return most_from(leads, parts_to_and_fro(leads))[0]


def most_falls(machine):
    """The greatest number of falls of the onward class in one TEXT."""
    return most_on_a_way(own_doings(machine)[0])


def most_falls_back(machine):
    """The greatest number of falls of the backward class in one TEXT."""
    return most_on_a_way(steps_ahead(own_doings(machine)[0]))


def longest_falling(machine):
    """The least TEXT with as many falls of the onward class as there can be."""
    steps = own_doings(machine)[0]
    parts = parts_to_and_fro(steps)
    most = most_from(steps, parts)
    texts = {0: ()}
    left = [0]
    at = 0
    # Ways are gone only as long as no fall is lost, so all that come to a number have as many falls.
    while most[left[at]] > 0:
        own = left[at]
        for letter, there in enumerate(steps[own], start=1):
            if there not in texts and most[there] + int(parts[there] != parts[own]) == most[own]:
                texts[there] = texts[own] + (letter,)
                left.append(there)
        at += 1
    return texts[left[at]]


def is_kept_alike(leads):
    """Whether all numbers of one part are kept by the same letters."""
    parts = parts_to_and_fro(leads)
    letters = {}
    for own, part in enumerate(parts):
        kept = letters_kept(leads, parts, own)
        if letters.setdefault(part, kept) != kept:
            return False
    return True


def are_steady(machine):
    """Whether in each onward class all DOINGS are kept by the same letters, and in each backward one from behind."""
    steps = own_doings(machine)[0]
    return is_kept_alike(steps) and is_kept_alike(steps_ahead(steps))
