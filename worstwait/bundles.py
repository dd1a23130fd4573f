"""Bundles of runs: by rank, first come first, by turns, by shares."""

from worstwait.errors import BadNumber
from worstwait.kinds import is_from, is_list
from worstwait.runs import added_up, heaps_of, need_bundle

MOST_PART = 60


def is_by_rank(bundle):
    """Whether no flow's letters leave where a flow ahead of it has letters left."""
    need_bundle(bundle)
    heaps = [heaps_of(run) for run in bundle]
    for place, (came, gone) in enumerate(bundle):
        for beat in range(1, len(gone)):
            if gone[beat] > gone[beat - 1] and any([heap[beat] > 0 for heap in heaps[:place]]):
                return False
    return True


def is_first_come(bundle):
    """Whether letters of all flows leave in the sequence of the beats in which they came."""
    need_bundle(bundle)
    return all([has_come_to(bundle, beat) for beat in range(len(bundle[0][0]))])


def has_come_to(bundle, beat):
    """Whether there is a beat such that all that came below it has left, and nothing behind it."""
    for low in range(beat + 1):
        high = min(low + 1, beat)
        if all([came[low] <= gone[beat] <= came[high] for came, gone in bundle]):
            return True
    return False


def need_parts(thing, flows, part):
    """Raise the error that names this part unless it is a list of a number for each flow."""
    if not is_list(thing) or len(thing) != flows:
        raise BadNumber(part)
    if not all([is_from(one, 1, MOST_PART) for one in thing]):
        raise BadNumber(part)


def least_by_turns(letters, whole, part):
    """How many of so many letters in a stretch are of a flow with this quantum, whole being all."""
    return letters // whole * part + max(0, letters % whole - (whole - part))


def most_by_shares(letters, shares, flow):
    """How many letters leave at most in a stretch in which so many of a flow leave."""
    told = letters
    for place, share in enumerate(shares):
        if place != flow:
            told += share * (letters + 1) // shares[flow] + 1
    return told


def is_by_turns(bundle, quanta):
    """Whether a bundle is by turns with these quanta."""
    need_bundle(bundle)
    need_parts(quanta, len(bundle), "quanta")
    whole = sum(quanta)
    for place, quantum in enumerate(quanta):
        for letters, own in least_own(bundle, place):
            if own < least_by_turns(letters, whole, quantum):
                return False
    return True


def is_by_shares(bundle, shares):
    """Whether a bundle is by shares with these shares."""
    need_bundle(bundle)
    need_parts(shares, len(bundle), "shares")
    for place in range(len(shares)):
        for letters, own in least_own(bundle, place):
            if letters > most_by_shares(own, shares, place):
                return False
    return True


def least_own(bundle, place):
    """How many letters of all flows leave in stretches of a flow, and how few of this one then do.

    Pairs of these, one for each number of letters of all flows.
    """
    gone = bundle[place][1]
    whole = added_up([run[1] for run in bundle])
    told = {}
    begin = 0
    for end, heap in enumerate(heaps_of(bundle[place])):
        if heap == 0:
            begin = end
        for beat in range(begin, end):
            letters = whole[end] - whole[beat]
            own = gone[end] - gone[beat]
            if letters not in told or own < told[letters]:
                told[letters] = own
    return list(told.items())
