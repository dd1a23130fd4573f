"""Closures of at most so many parts."""

from worstwait.closures import need_short_start
from worstwait.curves import at, first_values, has_none, made, need_curve, regular_from
from worstwait.errors import TooMany
from worstwait.foldings import folding, unit
from worstwait.kinds import need_number

MOST_PARTS = 20


def within(curve, number):
    """As the closure, but of at most so many beats that come to a beat together."""
    need_curve(curve)
    need_number(number, 0, MOST_PARTS, "number")
    if number == 0:
        return unit()
    one = of_one_part(curve)
    told = one
    for _ in range(number - 1):
        further = folding(told, one)
        if further == told:
            return told
        told = further
    return told


def of_one_part(curve):
    """The curve with 0 at beat 0."""
    if has_none(curve):
        return made([0] + list(curve.start[1:]) + [None], 1, 0)
    row = first_values(curve, len(curve.start) + 1)
    return made([0] + row[1:], curve.period, curve.growth)


def most_parts(curve):
    """The least number of parts with which the closure is told; None if there is none."""
    need_curve(curve)
    need_short_start(curve)
    if at(curve, 1) is None:
        return 0
    if has_none(curve) or not has_most_parts(curve):
        return None
    one = of_one_part(curve)
    told = one
    for number in range(1, MOST_PARTS + 1):
        further = folding(told, one)
        if further == told:
            return number
        told = further
    raise TooMany(MOST_PARTS)


def has_most_parts(curve):
    """Whether some number of parts is enough for a curve without a None."""
    begin = max(1, regular_from(curve))
    row = first_values(curve, begin + curve.period)
    overs = [curve.period * row[beat] - curve.growth * beat for beat in range(1, len(row))]
    if min(overs) < 0:
        return False
    return min(overs) > 0 or min(overs[begin - 1:]) == 0
