"""[3], [4], [10]: curves."""

import unittest
from math import gcd

from worstwait.curves import Curve, flat, late, line, rate, value, values
from worstwait.errors import BadCurve, BadNumber
from worstwait.joined import later
from tests.plain import INF, NO_NUMBERS, Case, Lots, numbers, raw_curve, raw_value, raw_values, told

BIG = 10 ** 9


def form(curve):
    return curve.start, curve.period, curve.growth


def plain_form(start, period, growth):
    """The least form, by trying all periods and starts over many beats."""
    row = raw_values(start, period, growth, 4 * len(start) + 4)
    if INF in row:
        return tuple(told(row[:row.index(INF) + 1])), 1, 0
    for step in range(1, period + 1):
        rise = row[-1] - row[-1 - step]
        ends = [many for many in range(step, 2 * len(start) + 1)
                if all(row[t] == row[t - step] + rise for t in range(many, len(row)))]
        if ends:
            return tuple(row[:ends[0]]), step, rise


class Curves(Case):
    def test_values_are_those_handed_in(self):
        lots = Lots(1)
        for _ in range(400):
            raw = raw_curve(lots)
            self.assertEqual(numbers(Curve(*raw), 40), raw_values(*raw, 40))

    def test_least_form(self):
        lots = Lots(2)
        for _ in range(400):
            raw = raw_curve(lots, 9, 2)
            self.assertEqual(form(Curve(*raw)), plain_form(*raw), raw)

    def test_least_form_by_hand(self):
        self.assertEqual(form(Curve([0, 2, 2, 4, 4, 6], 4, 4)), ((0, 2), 2, 2))
        self.assertEqual(form(Curve([1, 2, 3, 4], 3, 3)), ((1,), 1, 1))
        self.assertEqual(form(Curve([0, 0, 5], 3, 5)), ((0, 0, 5), 3, 5))
        self.assertEqual(form(Curve((3, None, None), 2, 7)), ((3, None), 1, 0))
        self.assertEqual(form(Curve([None, None], 1, 0)), ((None,), 1, 0))
        self.assertEqual(form(Curve([4] * 400, 60, 0)), ((4,), 1, 0))

    def test_equal_exactly_if_alike(self):
        lots = Lots(3)
        curves = [Curve(*raw_curve(lots, 3, 1)) for _ in range(150)]
        for one in curves:
            for two in curves:
                self.assertEqual(one == two, numbers(one, 30) == numbers(two, 30))
                self.assertEqual(one != two, numbers(one, 30) != numbers(two, 30))

    def test_equal_to_nothing_else(self):
        for thing in (0, None, "0", (0,), [0], ((0,), 1, 0)):
            self.assertFalse(flat(0) == thing)
            self.assertTrue(flat(0) != thing)

    def test_nothing_handed_in_changes(self):
        start = [0, 1, 1, 1]
        curve = Curve(start, 1, 0)
        self.assertEqual(start, [0, 1, 1, 1])
        start[0] = 7
        self.assertEqual(curve.start, (0, 1))
        told_values = values(curve, 3)
        told_values[0] = 9
        self.assertEqual(values(curve, 3), [0, 1, 1])

    def test_bad_start(self):
        for start in ([], (), [2, 1], [None, 1], [0, None, 0], [-1], [BIG + 1], [True], [0, False], ["1"],
                      [1.0], "01", {0: 1}, None, 3, {1}, [0] * 401):
            self.refuses(BadCurve, Curve, start, "x", "x", part="start")
        Curve([0] * 400, 1, 0)
        Curve([BIG] * 2, 1, BIG)

    def test_bad_period(self):
        for period in NO_NUMBERS + (0, -1, 61, 3):
            self.refuses(BadCurve, Curve, [0, 1], period, "x", part="period")
        self.refuses(BadCurve, Curve, [0] * 61, 61, 0, part="period")
        self.assertEqual(Curve([0] * 59 + [1], 60, 1).period, 60)
        self.refuses(BadCurve, Curve, [0] * 59 + [1], 61, 1, part="period")

    def test_bad_growth(self):
        for growth in NO_NUMBERS + (-1, BIG + 1):
            self.refuses(BadCurve, Curve, [0], 1, growth, part="growth")
        self.refuses(BadCurve, Curve, [0, 5], 2, 4, part="growth")
        self.assertEqual(Curve([0, 5], 2, 5).growth, 5)
        self.refuses(BadCurve, Curve, [0, None], 2, 5, part="growth")
        self.refuses(BadCurve, Curve, [0, 1, None, None], 3, 5, part="growth")
        self.refuses(BadCurve, Curve, [None], 1, True, part="growth")
        self.assertEqual(form(Curve([0, None, None], 2, 5)), ((0, None), 1, 0))

    def test_names_of_parameters(self):
        self.assertEqual(Curve(start=[0], period=1, growth=1), line(burst=0, steps=1, beats=1))
        self.assertEqual(value(curve=late(wait=2, steps=2, beats=1), beat=4), 4)
        self.assertEqual(values(curve=flat(number=3), beats=2), [3, 3])
        self.assertEqual(rate(curve=flat(3)), (0, 1))


class Told(Case):
    def test_value(self):
        lots = Lots(4)
        for _ in range(100):
            raw = raw_curve(lots)
            curve = Curve(*raw)
            for beat in (0, 1, 5, 39, 400, 4000):
                self.assertEqual(value(curve, beat), told([raw_value(*raw, beat)])[0])
        self.assertEqual(value(Curve([1, 2], 2, 3), 10 ** 12), 1 + 3 * (10 ** 12 // 2))
        self.assertEqual(value(Curve([0, None], 1, 0), 10 ** 12), None)
        self.assertEqual(value(line(5, BIG, 7), 10 ** 12), 5 + BIG * 10 ** 12 // 7)

    def test_value_refuses(self):
        for beat in NO_NUMBERS + (-1, 10 ** 12 + 1):
            self.refuses(BadNumber, value, flat(0), beat, part="beat")
        for thing in (None, 0, [0], ((0,), 1, 0)):
            self.refuses(BadCurve, value, thing, -1, part=None)
            self.refuses(BadCurve, values, thing, -1, part=None)
            self.refuses(BadCurve, rate, thing, part=None)

    def test_values(self):
        lots = Lots(5)
        for _ in range(50):
            raw = raw_curve(lots)
            for many in (0, 1, 3, 60):
                self.assertEqual(values(Curve(*raw), many), told(raw_values(*raw, many)))
        self.assertEqual(values(line(0, 1, 1), 4000), list(range(4000)))
        self.assertEqual(len(values(Curve([None], 1, 0), 4000)), 4000)
        for beats in NO_NUMBERS + (-1, 4001):
            self.refuses(BadNumber, values, flat(0), beats, part="beats")

    def test_many_values(self):
        for start, period, growth in (
                ([3], 1, 2), ([3], 1, 0), ([0, 5], 1, 10 ** 9), ([0] * 393 + [1, 1, 1, 2, 2, 5, 9], 7, 8), ([0, 1, 4, 4, 5, 6, 7], 7, 9),
                (list(range(0, 800, 2)), 59, 118), ([0] * 340 + [7] * 60, 60, 11), ([k // 2 for k in range(59)], 59, 31),
                ([k * k for k in range(60)], 60, 4000), ([10 ** 9] * 400, 60, 10 ** 9), ([0] * 399 + [1], 1, 1),
                ([1, 2, None], 1, 0), ([None], 1, 0), (list(range(399)) + [None], 1, 0)):
            curve = Curve(start, period, growth)
            row = list(start)
            while len(row) < 4000:
                row.append(None if row[-1] is None else row[len(row) - period] + growth)
            many = len(curve.start)
            for beats in (0, 1, many - 1, many, many + 1, many + 13, 2 * many + 100, 400, 401, 3999, 4000):
                told = values(curve, beats)
                self.assertEqual(told, row[:beats])
                self.assertIs(type(told), list)
            told.append(7)
            self.assertEqual(values(curve, 4000), row)

    def test_flat(self):
        for number in (0, 1, BIG, None):
            self.assertEqual(values(flat(number), 5), [number] * 5)
        for number in (True, False, "1", 1.0, -1, BIG + 1, [1]):
            self.refuses(BadNumber, flat, number, part="number")

    def test_line(self):
        lots = Lots(6)
        for _ in range(60):
            burst, steps, beats = lots.below(5), lots.below(9), 1 + lots.below(60)
            row = [0] + [burst + (steps * t) // beats for t in range(1, 200)]
            self.assertEqual(values(line(burst, steps, beats), 200), row)
        self.assertEqual(value(line(BIG, BIG, 60), 61), BIG + BIG * 61 // 60)
        for wrong in NO_NUMBERS + (-1, BIG + 1):
            self.refuses(BadNumber, line, wrong, wrong, wrong, part="burst")
            self.refuses(BadNumber, line, 0, wrong, wrong, part="steps")
        for wrong in NO_NUMBERS + (0, -1, 61):
            self.refuses(BadNumber, line, 0, 0, wrong, part="beats")

    def test_late(self):
        lots = Lots(7)
        for _ in range(60):
            wait, steps, beats = lots.below(20), lots.below(9), 1 + lots.below(60)
            row = [0 if t <= wait else (steps * (t - wait)) // beats for t in range(200)]
            self.assertEqual(values(late(wait, steps, beats), 200), row)
        self.assertEqual(value(late(300, 1, 1), 301), 1)
        for wrong in NO_NUMBERS + (-1, 301):
            self.refuses(BadNumber, late, wrong, wrong, wrong, part="wait")
        for wrong in NO_NUMBERS + (-1, BIG + 1):
            self.refuses(BadNumber, late, 0, wrong, wrong, part="steps")
        for wrong in NO_NUMBERS + (0, -1, 61):
            self.refuses(BadNumber, late, 0, 0, wrong, part="beats")

    def test_rate(self):
        lots = Lots(8)
        for _ in range(100):
            curve = Curve(*raw_curve(lots, 9, 3))
            if None in curve.start:
                self.assertIsNone(rate(curve))
                continue
            many = 60 * curve.period
            rise = numbers(curve, 2 * many)[-1] - numbers(curve, many)[-1]
            self.assertEqual(rate(curve), (rise // gcd(rise, many), many // gcd(rise, many)))
        self.assertEqual(rate(flat(5)), (0, 1))
        self.assertEqual(rate(Curve([0, 0, 1], 3, 6)), (2, 1))
        self.assertIsNone(rate(flat(None)))
        self.assertIsNone(rate(later(flat(None), 3)))


if __name__ == "__main__":
    unittest.main()
