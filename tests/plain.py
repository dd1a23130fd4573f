"""What the tests share: odd curves, and the plain words of the document about them."""

import unittest

from worstwait.curves import Curve
from worstwait.errors import TooMany

INF = float("inf")

# What is no number, though some of it is equal to one.
NO_NUMBERS = (True, False, None, "1", 1.0, (1,), [1])


class Lots:
    """Numbers that look like chance and are the same in each run."""

    def __init__(self, seed):
        self.state = seed * 7919 + 17

    def below(self, many):
        self.state = (self.state * 6364136223846793005 + 1442695040888963407) % 2 ** 64
        return (self.state >> 33) % many

    def of(self, things):
        return things[self.below(len(things))]


def raw_curve(lots, longest=7, steepest=4, nones=True):
    """What may be handed to Curve: start, period and growth."""
    many = 1 + lots.below(longest)
    row = [lots.below(3)]
    while len(row) < many:
        row.append(row[-1] + lots.of([0, 0, 1, lots.below(steepest + 1)]))
    if nones and lots.below(4) == 0:
        end = lots.below(many)
        return row[:end] + [None] * (many - end), 1, 0
    period = 1 + lots.below(many)
    return row, period, row[-1] - row[many - period] + lots.below(4)


def some_curve(lots, longest=7, steepest=4, nones=True):
    return Curve(*raw_curve(lots, longest, steepest, nones))


def raw_values(start, period, growth, many):
    """The first values as [10] tells them, each from the one a period ahead; INF for None."""
    row = [INF if one is None else one for one in start][:many]
    while len(row) < many:
        row.append(row[len(row) - period] + growth)
    return row


def raw_value(start, period, growth, beat):
    return raw_values(start, period, growth, beat + 1)[beat]


def numbers(curve, many):
    """The first so many values with INF for None."""
    return raw_values(curve.start, curve.period, curve.growth, many)


def told(row):
    """Values with None for INF."""
    return [None if one == INF else one for one in row]


def long_curve(many, period=1, growth=0):
    """A curve, made, of just so many values at its start."""
    from worstwait.joined import later
    curve = later(Curve([0, 1, 1] + [5] * period, period, growth), many - 3 - period)
    assert len(curve.start) == many and curve.period == period, (len(curve.start), curve.period)
    return curve


class Case(unittest.TestCase):
    """A test case with a short way to ask for errors and their attributes."""

    def refuses(self, error, call, *args, **attributes):
        with self.assertRaises(error) as caught:
            call(*args)
        self.assertIs(type(caught.exception), error)
        for name, wanted in attributes.items():
            self.assertEqual(getattr(caught.exception, name), wanted)
            self.assertIs(type(getattr(caught.exception, name)), type(wanted))

    def too_many(self, most, call, *args):
        self.refuses(TooMany, call, *args, most=most)

    def same(self, curve, row):
        """The curve has the values of row (INF for None) at its first beats."""
        self.assertEqual([one for one in numbers(curve, len(row))], list(row))
