"""Curves of rows that may be below a number at first, and are lifted to it there."""

from worstwait.curves import MOST_MADE, made
from worstwait.errors import TooMany
from worstwait.joined import last_above


def lifted(front, row, period, growth, low):
    """The curve that begins with front, and has behind it row, lifted to low where it is below.

    row holds at least as many numbers as period tells, never falls, and goes
    on by period and growth.
    """
    begin = len(row) - period
    last = None
    if growth > 0:
        last = last_above([low] * period, row[begin:], begin, growth)
    if last is not None:
        if len(front) + last >= MOST_MADE:
            # The least form ends behind the last beat at which it is lifted.
            raise TooMany(MOST_MADE)
        row = list(row)
        while len(row) <= last + period:
            row.append(row[len(row) - period] + growth)
    return made(front + [max(low, one) for one in row], period, growth)


def running_most(row):
    """At each place the greatest number of a row up to there."""
    told = []
    for one in row:
        told.append(one if not told or one > told[-1] else told[-1])
    return told
