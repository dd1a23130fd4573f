"""Curves compared and joined beat by beat."""

from math import lcm

from worstwait.curves import MOST, MOST_MADE, at, first_none, first_values, has_none, made, need_curve
from worstwait.curves import regular_from
from worstwait.errors import TooMany
from worstwait.kinds import need_number


def need_two(curve, other):
    """Raise the error of what is no curve unless both are curves."""
    need_curve(curve)
    need_curve(other)


def common_period(curve, other):
    """The least number that both periods divide, of curves without a None."""
    step = lcm(curve.period, other.period)
    if step > MOST_MADE:
        raise TooMany(MOST_MADE)
    return step


def gain_in(curve, other, step):
    """How much more the curve grows than the other one in a common period."""
    return step // curve.period * curve.growth - step // other.period * other.growth


def first_above(curve, other):
    """The least beat at which the curve is above the other one; None without one."""
    need_two(curve, other)
    if has_none(curve) or has_none(other):
        return above_ahead(curve, other)
    step = common_period(curve, other)
    begin = max(regular_from(curve), regular_from(other))
    spare = gaps_of(first_values(other, begin + step), first_values(curve, begin + step))
    gain = gain_in(curve, other, step)
    if min(spare) < 0:
        return first_below(spare, 0)
    if gain <= 0:
        return None
    behind = spare[begin:]
    rounds = min(behind) // gain + 1
    return begin + first_below(behind, rounds * gain) + rounds * step


def above_ahead(curve, other):
    """The least beat at which the curve is above the other one, if one of them has a None."""
    many = shorter_end(curve, other)
    spare = gaps_of(first_values(other, many), first_values(curve, many))
    if spare and min(spare) < 0:
        return first_below(spare, 0)
    return many if at(curve, many) is None and at(other, many) is not None else None


def gaps_of(row, other_row):
    """By how much the numbers of a row are above those of another one."""
    return [one - two for one, two in zip(row, other_row)]


def first_below(row, number):
    """The first place at which a row is below a number; there is one."""
    place = 0
    while row[place] >= number:
        place += 1
    return place


def is_below(curve, other):
    """Whether the curve is at every beat at most the other one."""
    return first_above(curve, other) is None


def slower_first(curve, other):
    """Both curves, that of the lesser rate ahead."""
    if curve.growth * other.period > other.growth * curve.period:
        return other, curve
    return curve, other


def last_above(row, other_row, begin, gain):
    """The last beat at which row is above other_row; None if it never is.

    Both begin at beat begin and tell as many beats; each time as many beats
    later other_row has come nearer by gain, which is above 0.
    """
    gaps = gaps_of(row, other_row)
    most = max(gaps)
    if most <= 0:
        return None
    rounds = (most - 1) // gain
    place = len(gaps) - 1
    while gaps[place] <= rounds * gain:
        place -= 1
    return begin + place + rounds * len(gaps)


def last_lead(slow, fast, step):
    """The last beat at which the slower curve is above, as far as it counts.

    Beats at which one of them is not yet regular are left out.
    """
    begin = max(regular_from(slow), regular_from(fast))
    gain = gain_in(fast, slow, step)
    slow_row = first_values(slow, begin + step)[begin:]
    fast_row = first_values(fast, begin + step)[begin:]
    last = last_above(slow_row, fast_row, begin, gain)
    if last is None:
        return begin
    if last >= MOST_MADE:
        # The least form ends behind the last change from one to the other.
        raise TooMany(MOST_MADE)
    return last


def settled(curve, other, least):
    """From which beat on, and as which one of the two, the joined curve goes on.

    For curves without a None whose rates differ.
    """
    slow, fast = slower_first(curve, other)
    kept = slow if least else fast
    last = last_lead(slow, fast, common_period(curve, other))
    return max(last + 1, regular_from(kept)), kept


def shorter_end(curve, other):
    """The first beat at which one of the two has a None, if one has it."""
    return min([first_none(one) for one in (curve, other) if has_none(one)])


def lesser_row(row, other_row):
    """The lesser numbers of two rows."""
    return [one if one < two else two for one, two in zip(row, other_row)]


def greater_row(row, other_row):
    """The greater numbers of two rows."""
    return [one if one > two else two for one, two in zip(row, other_row)]


def added_row(row, other_row):
    """The sums of the numbers of two rows."""
    return [one + two for one, two in zip(row, other_row)]


def least_of(curve, other):
    """The curve of the lesser value at each beat."""
    need_two(curve, other)
    if not has_none(curve) and not has_none(other):
        return joined_numbers(lesser_row, curve, other, True)
    # Behind the first None the one that goes on is the lesser one.
    many = shorter_end(curve, other)
    going = other if at(curve, many) is None else curve
    row = lesser_row(first_values(curve, many), first_values(other, many))
    enough = max(many + going.period, len(going.start))
    return made(row + first_values(going, enough)[many:], going.period, going.growth)


def most_of(curve, other):
    """The curve of the greater value at each beat."""
    need_two(curve, other)
    if has_none(curve) or has_none(other):
        return joined_ends(greater_row, curve, other)
    return joined_numbers(greater_row, curve, other, False)


def joined_numbers(joined_row, curve, other, least):
    """The lesser or the greater one of two curves without a None."""
    step = common_period(curve, other)
    if gain_in(curve, other, step) == 0:
        begin = max(regular_from(curve), regular_from(other))
        growth = step // curve.period * curve.growth
        return joined_by(joined_row, curve, other, begin + step, step, growth)
    begin, kept = settled(curve, other, least)
    return joined_by(joined_row, curve, other, begin + kept.period, kept.period, kept.growth)


def joined_by(joined_row, curve, other, many, period, growth):
    """The curve that goes on by period and growth behind its first many values."""
    return made(joined_row(first_values(curve, many), first_values(other, many)), period, growth)


def joined_ends(joined_row, curve, other):
    """The curve that is without end as soon as one of the two is."""
    many = shorter_end(curve, other)
    return made(joined_row(first_values(curve, many), first_values(other, many)) + [None], 1, 0)


def sum_of(curve, other):
    """The curve of the sum at each beat."""
    need_two(curve, other)
    if has_none(curve) or has_none(other):
        return joined_ends(added_row, curve, other)
    step = common_period(curve, other)
    begin = max(regular_from(curve), regular_from(other))
    growth = step // curve.period * curve.growth + step // other.period * other.growth
    return joined_by(added_row, curve, other, begin + step, step, growth)


def later(curve, beats):
    """The curve so many beats later, with 0 ahead of it."""
    need_curve(curve)
    need_number(beats, 0, MOST_MADE, "beats")
    return made([0] * beats + list(curve.start), curve.period, curve.growth)


def sooner(curve, beats):
    """The curve so many beats sooner."""
    need_curve(curve)
    need_number(beats, 0, MOST_MADE, "beats")
    many = max(len(curve.start), beats + curve.period)
    return made(first_values(curve, many)[beats:], curve.period, curve.growth)


def raised(curve, number):
    """The curve with so much more at each beat."""
    need_curve(curve)
    need_number(number, 0, MOST, "number")
    row = [None if one is None else one + number for one in curve.start]
    return made(row, curve.period, curve.growth)


def times(curve, number):
    """The curve with so many times its value at each beat."""
    need_curve(curve)
    need_number(number, 0, MOST, "number")
    row = [None if one is None else one * number for one in curve.start]
    return made(row, curve.period, curve.growth * number)
