"""Unfoldings: how much one curve can be above another one, put so many beats sooner."""

from worstwait.curves import first_none, first_values, flat, has_none, made, regular_from
from worstwait.joined import common_period, gain_in, need_two
from worstwait.kinds import need_number
from worstwait.lifts import lifted


def unfolding(curve, other):
    """The curve of the greatest difference of a later value of curve and one of other, at least 0."""
    need_two(curve, other)
    if not has_none(curve) and not has_none(other):
        step = common_period(curve, other)
        if gain_in(curve, other, step) > 0:
            return flat(None)
    beats = beats_that_count(curve, other)
    if beats == 0:
        return flat(0)
    if not has_none(curve):
        row = greatest_gaps(curve, other, len(curve.start), beats)
        return lifted([], row, curve.period, curve.growth, 0)
    many = max(0, first_none(curve) - beats + 1)
    row = greatest_gaps(curve, other, many, beats)
    return made([max(0, one) for one in row] + [None], 1, 0)


def beats_that_count(curve, other):
    """How many beats of other are to be looked at for the greatest difference, if there is one.

    Those behind them tell of no other difference that a period earlier is
    not as great. For curves without a None this is so if the curve does not
    grow faster.
    """
    if has_none(other):
        return first_none(other)
    if has_none(curve):
        return first_none(curve) + 1
    return max(regular_from(curve), regular_from(other)) + common_period(curve, other)


def greatest_gaps(curve, other, many, beats):
    """The greatest differences, maybe below 0, at so many beats, over so many beats of other."""
    row = first_values(curve, many + beats)
    its = first_values(other, beats)
    return [max([one - two for one, two in zip(row[beat:], its)]) for beat in range(many)]


def spread_at(curve, other, beat):
    """The least beat of other at which the unfolding's value at a beat is come to; None without one."""
    need_two(curve, other)
    need_number(beat, 0, 400, "beat")
    endless = False
    if not has_none(curve) and not has_none(other):
        endless = gain_in(curve, other, common_period(curve, other)) > 0
    many = beats_that_count(curve, other)
    if endless or many == 0:
        return None
    row = first_values(curve, beat + many)[beat:]
    if None in row:
        return row.index(None)
    gaps = [one - two for one, two in zip(row, first_values(other, many))]
    most = max(gaps)
    return gaps.index(most) if most >= 0 else None
