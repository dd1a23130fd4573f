"""Curves: a value at each beat, never falling, going on by a period and a growth."""

from math import gcd

from worstwait.errors import BadCurve, TooMany
from worstwait.kinds import are_numbers, is_from, is_list, need_number

# How great values and growths that are handed in may be, and how many values
# the start of a curve that is handed in, or made, may have.
MOST = 10 ** 9
MOST_GIVEN = 400
MOST_MADE = 4000
# Up to so many values, or rounds, are told one by one.
FEW = 12


class Curve:
    """A curve in its least form: start (a tuple), period and growth."""

    def __init__(self, start, period, growth):
        if not is_start(start):
            raise BadCurve("start")
        if not is_from(period, 1, min(60, len(start))):
            raise BadCurve("period")
        if not is_from(growth, 0, MOST) or falls_behind(start, period, growth):
            raise BadCurve("growth")
        self.start, self.period, self.growth = least_form(list(start), period, growth)

    def __eq__(self, other):
        if not isinstance(other, Curve):
            return False
        return (self.start, self.period, self.growth) == (other.start, other.period, other.growth)


def is_above(one, two):
    """Whether a value is above another one, None being above all numbers."""
    if one is None or two is None:
        return one is None and two is not None
    return one > two


def is_start(thing):
    """Whether it is a list of 1 to 400 values that never fall."""
    if not is_list(thing) or not 1 <= len(thing) <= MOST_GIVEN:
        return False
    numbers = [one for one in thing if one is not None]
    if not are_numbers(numbers) or None in thing[:len(numbers)] or sorted(numbers) != numbers:
        return False
    return not numbers or (numbers[0] >= 0 and numbers[-1] <= MOST)


def falls_behind(start, period, growth):
    """Whether the first value behind start is below the last one of start.

    Further on the curve only does again what it did within start.
    """
    behind = start[len(start) - period]
    if behind is not None:
        behind = behind + growth
    return is_above(start[-1], behind)


def least_form(row, period, growth):
    """The least form of the curve that begins with row: start, period, growth."""
    if row[-1] is None:
        return tuple(row[:row.index(None) + 1]), 1, 0
    step = least_step(row, period, growth)
    rise = growth * step // period
    begin = len(row) - period
    while begin > 0 and row[begin - 1 + step] == row[begin - 1] + rise:
        begin -= 1
    return tuple(row[:begin + step]), step, rise


def least_step(row, period, growth):
    """The least period of what comes at the end of row and behind it."""
    # A period that is a part of this one has as great a part of the growth, a whole number.
    least = period // gcd(period, growth)
    if least == period:
        return period
    tail = row[len(row) - period:]
    jumps = [two - one for one, two in zip(tail, tail[1:] + [tail[0] + growth])]
    for step in range(least, period, least):
        if period % step == 0 and jumps[step:] == jumps[:period - step]:
            return step
    return period


def made(row, period, growth):
    """The curve that begins with row, unless its least form is too long."""
    start, step, rise = least_form(row, period, growth)
    if len(start) > MOST_MADE:
        raise TooMany(MOST_MADE)
    curve = Curve((0,), 1, 0)
    curve.start = start
    curve.period = step
    curve.growth = rise
    return curve


def need_curve(thing):
    """Raise the error of what is no curve unless it is one."""
    if not isinstance(thing, Curve):
        raise BadCurve(None)


def has_none(curve):
    """Whether the curve is without end from some beat on."""
    return curve.start[-1] is None


def first_none(curve):
    """The first beat at which a curve that has a None has it."""
    return len(curve.start) - 1


def regular_from(curve):
    """The beat from which on a curve without a None goes on by its period."""
    return len(curve.start) - curve.period


def at(curve, beat):
    """The value at any beat."""
    many = len(curve.start)
    if beat < many:
        return curve.start[beat]
    if has_none(curve):
        return None
    times_round = (beat - many) // curve.period + 1
    return curve.start[beat - times_round * curve.period] + times_round * curve.growth


def first_values(curve, many):
    """The list of the first so many values, however many."""
    row = list(curve.start[:many])
    lack = many - len(row)
    if lack <= 0:
        return row
    if has_none(curve):
        return row + [None] * lack
    if lack > FEW:
        return row + values_behind(curve, lack)
    period = curve.period
    while len(row) < many:
        row.append(row[len(row) - period] + curve.growth)
    return row


def values_behind(curve, many):
    """The first so many values behind the start, of a curve without a None."""
    growth = curve.growth
    row = [one + growth for one in curve.start[regular_from(curve):]]
    if growth == 0:
        # Then it is the same number for ever: the least form has a period of 1.
        return row * many
    if len(row) == 1:
        return list(range(row[0], row[0] + growth * many, growth))
    # Few long rounds take less time than many short ones.
    while len(row) < FEW:
        row = row + [one + growth for one in row]
        growth = growth + growth
    rounds = -(-many // len(row))
    return [one + lift for lift in range(0, growth * rounds, growth) for one in row][:many]


def value(curve, beat):
    """The value at a beat of at most 10 ** 12."""
    need_curve(curve)
    need_number(beat, 0, 10 ** 12, "beat")
    return at(curve, beat)


def values(curve, beats):
    """The list of the first so many values, at most 4000."""
    need_curve(curve)
    need_number(beats, 0, MOST_MADE, "beats")
    return first_values(curve, beats)


def flat(number):
    """The curve that has this value at all beats."""
    if number is not None:
        need_number(number, 0, MOST, "number")
    return made([number], 1, 0)


def line(burst, steps, beats):
    """The curve with 0 at beat 0 and burst + (steps * t) // beats behind."""
    need_number(burst, 0, MOST, "burst")
    need_number(steps, 0, MOST, "steps")
    need_number(beats, 1, 60, "beats")
    row = [burst + steps * beat // beats for beat in range(1, beats + 1)]
    return made([0] + row, beats, steps)


def late(wait, steps, beats):
    """The curve with 0 up to beat wait and (steps * (t - wait)) // beats behind."""
    need_number(wait, 0, 300, "wait")
    need_number(steps, 0, MOST, "steps")
    need_number(beats, 1, 60, "beats")
    row = [steps * beat // beats for beat in range(beats)]
    return made([0] * wait + row, beats, steps)


def rate(curve):
    """The growth and the period in lowest terms; None if the curve has a None."""
    need_curve(curve)
    if has_none(curve):
        return None
    common = gcd(curve.growth, curve.period)
    return curve.growth // common, curve.period // common
