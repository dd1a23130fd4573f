"""Curves compared and joined beat by beat."""

from math import lcm

from worstwait.curves import MOST, MOST_MADE, at, first_none, first_values, has_none, is_above, made
from worstwait.curves import need_curve, regular_from
from worstwait.errors import TooMany
from worstwait.kinds import need_number


def need_two(curve, other):
    """Raise the error of what is no curve unless both are curves."""
    need_curve(curve)
    need_curve(other)


def common_period(curve, other):
    """The least number that both periods divide, of curves without a None."""
    step = lcm(curve.period, other.period)
    if step > MOST_MADE:
        raise TooMany(MOST_MADE)
    return step


def gain_in(curve, other, step):
    """How much more the curve grows than the other one in a common period."""
    return step // curve.period * curve.growth - step // other.period * other.growth


def first_above(curve, other):
    """The least beat at which the curve is above the other one; None without one."""
    need_two(curve, other)
    if has_none(curve) or has_none(other):
        return above_ahead(curve, other, beats_to_look_at(curve, other))
    step = common_period(curve, other)
    begin = max(regular_from(curve), regular_from(other))
    found = above_ahead(curve, other, begin + step)
    gain = gain_in(curve, other, step)
    if found is not None or gain <= 0:
        return found
    gaps = [at(other, beat) - at(curve, beat) for beat in range(begin, begin + step)]
    return min([begin + place + (gap // gain + 1) * step for place, gap in enumerate(gaps)])


def beats_to_look_at(curve, other):
    """Behind how many beats nothing new comes, if one of the two has a None."""
    if has_none(other):
        return first_none(other)
    return first_none(curve) + 1


def above_ahead(curve, other, beats):
    """The least of the first so many beats at which the curve is above."""
    row = first_values(curve, beats)
    other_row = first_values(other, beats)
    for beat, (mine, its) in enumerate(zip(row, other_row)):
        if is_above(mine, its):
            return beat
    return None


def is_below(curve, other):
    """Whether the curve is at every beat at most the other one."""
    return first_above(curve, other) is None


def slower_first(curve, other):
    """Both curves, that of the lesser rate ahead."""
    if curve.growth * other.period > other.growth * curve.period:
        return other, curve
    return curve, other


def last_above(row, other_row, begin, gain):
    """The last beat at which row is above other_row; None if it never is.

    Both begin at beat begin and tell as many beats; each time as many beats
    later other_row has come nearer by gain, which is above 0.
    """
    step = len(row)
    last = None
    for place, gap in enumerate([one - two for one, two in zip(row, other_row)]):
        if gap > 0:
            beat = begin + place + (gap - 1) // gain * step
            last = beat if last is None else max(last, beat)
    return last


def last_lead(slow, fast, step):
    """The last beat at which the slower curve is above, as far as it counts.

    Beats at which one of them is not yet regular are left out.
    """
    begin = max(regular_from(slow), regular_from(fast))
    gain = gain_in(fast, slow, step)
    slow_row = first_values(slow, begin + step)[begin:]
    fast_row = first_values(fast, begin + step)[begin:]
    last = last_above(slow_row, fast_row, begin, gain)
    if last is None:
        return begin
    if last >= MOST_MADE:
        # The least form ends behind the last change from one to the other.
        raise TooMany(MOST_MADE)
    return last


def lesser(one, two):
    """The lesser one of two values."""
    return two if is_above(one, two) else one


def greater(one, two):
    """The greater one of two values."""
    return one if is_above(one, two) else two


def settled(curve, other, least):
    """From which beat on, and as which one of the two, the joined curve goes on.

    For curves without a None whose rates differ.
    """
    slow, fast = slower_first(curve, other)
    kept = slow if least else fast
    last = last_lead(slow, fast, common_period(curve, other))
    return max(last + 1, regular_from(kept)), kept


def least_of(curve, other):
    """The curve of the lesser value at each beat."""
    need_two(curve, other)
    if has_none(curve) and has_none(other):
        begin = max(first_none(curve), first_none(other))
        return joined_by(lesser, curve, other, begin + 1, 1, 0)
    if has_none(curve) or has_none(other):
        ending, going = (curve, other) if has_none(curve) else (other, curve)
        begin = max(first_none(ending), regular_from(going))
        return joined_by(lesser, curve, other, begin + going.period, going.period, going.growth)
    return joined_numbers(lesser, curve, other, True)


def most_of(curve, other):
    """The curve of the greater value at each beat."""
    need_two(curve, other)
    if has_none(curve) or has_none(other):
        return joined_by(greater, curve, other, shorter_end(curve, other) + 1, 1, 0)
    return joined_numbers(greater, curve, other, False)


def shorter_end(curve, other):
    """The first beat at which one of the two has a None, if one has it."""
    return min([first_none(one) for one in (curve, other) if has_none(one)])


def joined_numbers(pick, curve, other, least):
    """The lesser or the greater one of two curves without a None."""
    step = common_period(curve, other)
    if gain_in(curve, other, step) == 0:
        begin = max(regular_from(curve), regular_from(other))
        growth = step // curve.period * curve.growth
        return joined_by(pick, curve, other, begin + step, step, growth)
    begin, kept = settled(curve, other, least)
    return joined_by(pick, curve, other, begin + kept.period, kept.period, kept.growth)


def joined_by(pick, curve, other, many, period, growth):
    """The curve that goes on by period and growth behind its first many values."""
    row = first_values(curve, many)
    other_row = first_values(other, many)
    return made([pick(one, two) for one, two in zip(row, other_row)], period, growth)


def added_values(one, two):
    """The sum of two values."""
    return None if one is None or two is None else one + two


def sum_of(curve, other):
    """The curve of the sum at each beat."""
    need_two(curve, other)
    if has_none(curve) or has_none(other):
        return joined_by(added_values, curve, other, shorter_end(curve, other) + 1, 1, 0)
    step = common_period(curve, other)
    begin = max(regular_from(curve), regular_from(other))
    growth = step // curve.period * curve.growth + step // other.period * other.growth
    return joined_by(added_values, curve, other, begin + step, step, growth)


def later(curve, beats):
    """The curve so many beats later, with 0 ahead of it."""
    need_curve(curve)
    need_number(beats, 0, MOST_MADE, "beats")
    return made([0] * beats + list(curve.start), curve.period, curve.growth)


def sooner(curve, beats):
    """The curve so many beats sooner."""
    need_curve(curve)
    need_number(beats, 0, MOST_MADE, "beats")
    many = max(len(curve.start), beats + curve.period)
    return made(first_values(curve, many)[beats:], curve.period, curve.growth)


def raised(curve, number):
    """The curve with so much more at each beat."""
    need_curve(curve)
    need_number(number, 0, MOST, "number")
    row = [None if one is None else one + number for one in curve.start]
    return made(row, curve.period, curve.growth)


def times(curve, number):
    """The curve with so many times its value at each beat."""
    need_curve(curve)
    need_number(number, 0, MOST, "number")
    row = [None if one is None else one * number for one in curve.start]
    return made(row, curve.period, curve.growth * number)
