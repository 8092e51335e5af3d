"""One judge: claims, what papers there are for them and against them, and which claims come of others."""

from nextsuch.asks import is_naming, named
from nextsuch.chains import counts_of_ways, fits, is_chain, is_single, meeting, two_ways
from nextsuch.checks import is_number_in
from nextsuch.errors import CanNot, Unfit
from nextsuch.judged import are_alike, is_right, unlike, wrong
from nextsuch.kinds import KINDS, bar, is_bar, is_of
from nextsuch.machines import MOST_LETTERS, is_machine, takes, wide_of
from nextsuch.namings import are_one, unlike_named
from nextsuch.trees import answer, is_tree, manners
from nextsuch.words import is_text

# Which kinds a machine of a kind is of, too.
WIDER = {"coming": ("asks", "backward", "onward"), "onward": ("asks",), "backward": ("asks",)}


def is_claim_of_machine(thing):
    """Whether thing, a triple of a word, a machine and more, is a CLAIM."""
    word, machine, told = thing
    if not is_machine(machine):
        return False
    if word == "kind":
        return told in KINDS
    return word == "right" and is_tree(wide_of(machine), told)


def is_claimed_of(word, wide, thing):
    """Whether thing is, for letters to wide, what a CLAIM of two such things that begins with word tells of."""
    if word == "alike":
        return is_tree(wide, thing)
    if word == "apart":
        return is_chain(wide, thing)
    return word == "one" and is_naming(wide, thing)


def is_claim(thing):
    """Whether thing is a CLAIM."""
    if not isinstance(thing, tuple) or len(thing) < 3:
        return False
    word, wide = thing[0], thing[1]
    if word == "kind" or word == "right":
        return len(thing) == 3 and is_claim_of_machine(thing)
    if not is_number_in(wide, 1, MOST_LETTERS):
        return False
    if word == "single":
        return len(thing) == 3 and is_chain(wide, thing[2])
    return len(thing) == 4 and is_claimed_of(word, wide, thing[2]) and is_claimed_of(word, wide, thing[3])


def tupled(value):
    """value with tuples for lists, at any depth."""
    if isinstance(value, (list, tuple)):
        return tuple([tupled(own) for own in value])
    return value


def claim_of(value):
    """The CLAIM that value is, with tuples for lists."""
    claim = tupled(value)
    if not is_claim(claim):
        raise Unfit()
    return claim


def do_not_meet(chain, far):
    """Whether no TEXT fits both."""
    try:
        meeting(chain, far)
    except CanNot:
        return True
    return False


def is_told_so(claim):
    """Whether claim, with tuples alone, is so."""
    word = claim[0]
    if word == "kind":
        return is_of(claim[1], claim[2])
    if word == "right":
        return is_right(claim[1], claim[2])
    if word == "single":
        return is_single(claim[2])
    _, wide, one, other = claim
    if word == "alike":
        return are_alike(wide, one, other)
    if word == "apart":
        return do_not_meet(one, other)
    return are_one(wide, one, other)


def told_against(claim):
    """A PAPER against claim, which is not so."""
    word = claim[0]
    if word == "kind":
        return bar(claim[1], claim[2])
    if word == "right":
        return wrong(claim[1], claim[2])
    if word == "single":
        return two_ways(claim[2])
    _, wide, one, other = claim
    if word == "alike":
        return unlike(wide, one, other)
    if word == "apart":
        return meeting(one, other)
    return unlike_named(wide, one, other)


def speaks_against(claim, thing):
    """Whether thing is such a PAPER as is against claim, if this is not so."""
    word = claim[0]
    if word == "kind":
        return is_bar(claim[1], thing) and thing[0] == claim[2]
    if not is_text(wide_of(claim[1]) if word == "right" else claim[1], thing):
        return False
    if word == "right":
        return answer(claim[2], thing) != takes(claim[1], thing)
    if word == "single":
        return counts_of_ways(claim[2], thing)[0][0] > 1
    one, other = claim[2], claim[3]
    if word == "alike":
        return answer(one, thing) != answer(other, thing)
    if word == "apart":
        return fits(one, thing) and fits(other, thing)
    return named(thing, one) != named(thing, other)


def verdict(claim, thing):
    """The string that tells what thing is to claim, with tuples alone."""
    if is_told_so(claim):
        return "for" if isinstance(thing, tuple) and len(thing) == 0 else "none"
    return "against" if speaks_against(claim, thing) else "none"


def is_so(claim):
    """Whether claim is so."""
    return is_told_so(claim_of(claim))


def paper(claim):
    """A PAPER for claim if it is so, otherwise one against it."""
    own = claim_of(claim)
    return () if is_told_so(own) else told_against(own)


def is_paper_for(claim, thing):
    """Whether thing is a PAPER for claim."""
    return verdict(claim_of(claim), thing) == "for"


def is_paper_against(claim, thing):
    """Whether thing is a PAPER against claim."""
    return verdict(claim_of(claim), thing) == "against"


def verdicts(claims, things):
    """The list with, for each CLAIM and the value at its place in things, "for", "against" or "none"."""
    told = [claim_of(claim) for claim in claims]
    if len(told) != len(things):
        raise Unfit()
    return [verdict(claim, thing) for claim, thing in zip(told, things)]


def links_of(claims):
    """For each tree, naming and machine of claims the list of those that a claim links to it.

    Trees are linked if one claim says that they are alike, namings if it says that they are one, a tree and a machine
    if it is right for it: so all that are alike, right or one by the rules are come to from one another.
    """
    links = {}
    for claim in claims:
        word = claim[0]
        if word in ("alike", "one", "right"):
            if word == "right":
                wide = wide_of(claim[1])
                one, other = ("machine", wide, claim[1]), ("alike", wide, claim[2])
            else:
                one, other = (word, claim[1], claim[2]), (word, claim[1], claim[3])
            links.setdefault(one, []).append(other)
            links.setdefault(other, []).append(one)
    return links


def linked_to(links, start):
    """All that are come to from start, start itself too if there is any."""
    told = {there: True for there in links.get(start, [])}
    left = list(told)
    while len(left) > 0:
        own = left.pop()
        for there in links[own]:
            if there not in told:
                told[there] = True
                left.append(there)
    return told


def kind_comes_of(machine, kind, told):
    """Whether it comes of told that machine is of kind, which is not itself among them."""
    for claim in told:
        if claim[0] == "kind" and claim[1] == machine and kind in WIDER.get(claim[2], ()):
            return True
    for word, _, tree in linked_to(links_of(told), ("machine", wide_of(machine), machine)):
        if word == "alike" and kind in ("asks",) + manners(tree):
            return True
    return False


def comes_of(claim, claims):
    """Whether claim comes of claims."""
    own, told = claim_of(claim), [claim_of(other) for other in claims]
    if own in told:
        return True
    word, wide = own[0], own[1]
    if word == "apart":
        return ("apart", wide, own[3], own[2]) in told
    if word == "kind":
        return kind_comes_of(own[1], own[2], told)
    if word == "right":
        return ("alike", wide_of(own[1]), own[2]) in linked_to(links_of(told), ("machine", wide_of(own[1]), own[1]))
    return word != "single" and (word, wide, own[3]) in linked_to(links_of(told), (word, wide, own[2]))


def first_false(claims):
    """The first place whose CLAIM is not so, None if all are."""
    for place, claim in enumerate([claim_of(own) for own in claims]):
        if not is_told_so(claim):
            return place
    return None
