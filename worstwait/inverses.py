"""Inverses: for each number the least beat at which a curve comes to it, or is above it."""

from worstwait.curves import MOST_MADE, at, first_none, has_none, made, need_curve, regular_from
from worstwait.errors import TooMany


def reach(curve):
    """The curve of the least beats at which the values are at least the number."""
    need_curve(curve)
    return least_beats(curve, 0)


def passed(curve):
    """The curve of the least beats at which the values are above the number."""
    need_curve(curve)
    return least_beats(curve, 1)


def least_beats(curve, more):
    """The curve of the least beats with a value of at least the number and more."""
    many, period, growth = inverse_form(curve, more)
    if many > MOST_MADE:
        raise TooMany(MOST_MADE)
    last = last_beat(curve)
    beat = 0
    row = []
    for number in range(many):
        while beat is not None and is_less(at(curve, beat), number + more):
            beat = None if beat == last else beat + 1
        row.append(beat)
    return made(row, period, growth)


def is_less(one, number):
    """Whether a value is less than a number."""
    return one is not None and one < number


def last_beat(curve):
    """A beat behind which the value never changes; None if there is none."""
    if has_none(curve):
        return first_none(curve)
    return regular_from(curve) if curve.growth == 0 else None


def inverse_form(curve, more):
    """How many values the inverse has at its start, its period and its growth.

    It is just the length of its least form, told without its values: the
    numbers up to those at the start of the curve may be far too many.
    """
    if has_none(curve):
        end = first_none(curve)
        return (curve.start[end - 1] + 2 - more if end > 0 else 1), 1, 0
    if curve.growth == 0:
        return curve.start[-1] + 2 - more, 1, 0
    begin = regular_from(curve)
    irregular = curve.start[-1] - curve.growth
    if begin > 0:
        irregular = max(irregular, curve.start[begin - 1])
    return max(0, irregular + 1 - more) + curve.growth, curve.growth, curve.period
