"""Gaps between curves, upwards and across, however unlike their periods are.

Points that say so refuse curves that are too unlike; the others tell the gaps
of all curves.
"""

from math import lcm

from worstwait.curves import at, first_none, first_values, has_none, regular_from


def grows_faster(curve, other):
    """Whether the first one of two curves without a None grows faster."""
    return curve.growth * other.period > other.growth * curve.period


def has_greatest_gap(curve, other):
    """Whether there is a greatest number by which the curve is above the other one."""
    if has_none(curve):
        return at(other, first_none(curve)) is None
    return has_none(other) or not grows_faster(curve, other)


def beats_to_settle(curve, other):
    """Behind how many beats no gap between curves without a None is new.

    So if the first one of them does not grow faster.
    """
    return max(regular_from(curve), regular_from(other)) + lcm(curve.period, other.period)


def greatest_gap(curve, other):
    """The greatest number by which the curve is above the other one, at least 0, and the first such beat.

    (None, beat) if it is without end at a beat, (None, None) if it grows without end.
    """
    if not has_greatest_gap(curve, other):
        return None, first_none(curve) if has_none(curve) else None
    many = first_none(other) if has_none(other) else beats_to_settle(curve, other)
    gaps = [one - two for one, two in zip(first_values(curve, many), first_values(other, many))]
    most = max(gaps + [0])
    return (most, gaps.index(most)) if most > 0 else (0, 0)


def longest_lag(curve, other):
    """The most beats behind which the other one comes to what the curve has, and the first such beat.

    (None, beat) if it never comes to what the curve has at a beat, (None, None)
    if it takes ever longer.
    """
    if has_none(other):
        return longest_of(curve, other, first_none(other))
    if other.growth == 0:
        beat = beat_of(curve, other.start[-1] + 1)
        if beat is not None:
            return None, beat
    if has_none(curve):
        return None, first_none(curve)
    if grows_faster(curve, other):
        return None, None
    return longest_of(curve, other, beats_to_settle(curve, other))


def longest_of(curve, other, many):
    """The longest lag of the first so many beats, at each of which there is one, and the first such beat."""
    longest, first = 0, 0
    last = 0
    for beat, number in enumerate(first_values(curve, many)):
        if number != last:
            last = number
            lag = beat_of(other, number) - beat
            if lag > longest:
                longest, first = lag, beat
    return longest, first


def beat_of(curve, number):
    """The least beat at which the curve is at least a number, or None; None if it never is."""
    if has_none(curve):
        end = first_none(curve)
        return end if number is None else first_place(curve.start, number, 0, end)
    many = len(curve.start)
    if number <= curve.start[-1]:
        return first_place(curve.start, number, 0, many)
    if curve.growth == 0:
        return None
    rounds = -((curve.start[-1] - number) // curve.growth)
    place = first_place(curve.start, number - rounds * curve.growth, regular_from(curve), many)
    return place + rounds * curve.period


def first_place(row, number, low, high):
    """The least place from low on, below high, at which an ascending row is at least a number; high without one."""
    while low < high:
        middle = (low + high) // 2
        if row[middle] < number:
            low = middle + 1
        else:
            high = middle
    return low
