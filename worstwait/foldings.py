"""Foldings: at each beat the least sum of two curves' values that come to it together."""

from worstwait.curves import MOST_MADE, first_none, first_values, has_none, made, regular_from
from worstwait.errors import TooMany
from worstwait.joined import common_period, gain_in, last_above, need_two
from worstwait.kinds import need_number


def unit():
    """The curve with 0 at beat 0 and None behind."""
    return made([0, None], 1, 0)


def folding(curve, other):
    """The curve of the least sum of values at two beats that come to a beat together."""
    need_two(curve, other)
    if has_none(curve) and has_none(other):
        return folded_ends(curve, other)
    if has_none(curve):
        return folded_end(curve, other)
    if has_none(other):
        return folded_end(other, curve)
    step = common_period(curve, other)
    slow, fast = folding_roles(curve, other)
    if gain_in(fast, slow, step) == 0:
        many = unsettled(slow, fast, step) + step
        growth = step // slow.period * slow.growth
        return made(both_sums(early_sums(slow, fast, many), late_sums(slow, fast, many)), step, growth)
    return folded_unlike(slow, fast, step)


def folded_ends(curve, other):
    """The folding of two curves that both have a None."""
    mine = list(curve.start[:first_none(curve)])
    its = list(other.start[:first_none(other)])
    if not mine or not its:
        return made([None], 1, 0)
    many = len(mine) + len(its) - 1
    if many >= MOST_MADE:
        raise TooMany(MOST_MADE)
    return made(least_sums(mine, its, many) + [None], 1, 0)


def folded_end(ending, going):
    """The folding of a curve that has a None and one that has none."""
    row = list(ending.start[:first_none(ending)])
    if not row:
        return made([None], 1, 0)
    many = len(row) - 1 + len(going.start)
    sums = least_sums(row, first_values(going, many), many)
    return made(sums, going.period, going.growth)


def folding_roles(curve, other):
    """The slower one ahead; of curves of the same rate the one with fewer values."""
    mine = curve.growth * other.period, len(curve.start)
    its = other.growth * curve.period, len(other.start)
    if mine <= its:
        return curve, other
    return other, curve


def unsettled(slow, fast, step):
    """Behind how many beats the sums that use late beats of slow go on regularly."""
    return regular_from(slow) + regular_from(fast) + step - 1


def folded_unlike(slow, fast, step):
    """The folding of two curves without a None whose rates differ.

    In the end a sum that uses slow at a late beat is always the least one;
    how long it may take that it comes to be is told by both kinds of sums
    over one common period.
    """
    begin = unsettled(slow, fast, step)
    many = begin + step
    early = early_sums(slow, fast, many)
    late_ones = late_sums(slow, fast, many)
    last = None
    if early:
        last = last_above(late_ones[begin:], early[begin:], begin, gain_in(fast, slow, step))
    if last is not None and last >= MOST_MADE:
        # The least form ends behind the last beat at which an early sum is less.
        raise TooMany(MOST_MADE)
    enough = slow.period + (begin if last is None else last + 1)
    if enough > many:
        early = early_sums(slow, fast, enough)
        late_ones = late_sums(slow, fast, enough)
    return made(both_sums(early, late_ones)[:enough], slow.period, slow.growth)


def early_sums(slow, fast, many):
    """The least sums that use slow ahead of the beat from which on it is regular.

    [] if there is no such beat.
    """
    early = list(slow.start[:regular_from(slow)])
    if not early:
        return []
    return least_sums(early, first_values(fast, many), many)


def late_sums(slow, fast, many):
    """The least sums that use slow from the beat on from which it is regular.

    None at the beats at which there are none.
    """
    begin = regular_from(slow)
    ring = list(slow.start[begin:])
    row = least_sums(ring, first_values(fast, many), max(0, many - begin))
    for beat in range(slow.period, len(row)):
        row[beat] = min(row[beat], row[beat - slow.period] + slow.growth)
    return ([None] * begin + row)[:many]


def both_sums(early, late_ones):
    """The lesser ones of two kinds of sums."""
    if not early:
        return late_ones
    return [one if two is None else min(one, two) for one, two in zip(early, late_ones)]


def least_sums(row, other_row, many):
    """At each of so many beats the least sum of two numbers, one of each row.

    At each of these beats there has to be one.
    """
    back = other_row[::-1]
    last = len(other_row) - 1
    sums = []
    for beat in range(many):
        low = max(0, beat - last)
        high = min(beat + 1, len(row))
        place = last - beat + low
        mine = row[low:high]
        its = back[place:place + high - low]
        sums.append(min([one + two for one, two in zip(mine, its)]))
    return sums


def split_at(curve, other, beat):
    """The least beat of curve at which the folding's value is come to."""
    need_two(curve, other)
    need_number(beat, 0, 400, "beat")
    row = first_values(curve, beat + 1)
    back = first_values(other, beat + 1)[::-1]
    sums = [None if one is None or two is None else one + two for one, two in zip(row, back)]
    told = [one for one in sums if one is not None]
    if not told:
        return None
    return sums.index(min(told))
