"""[54], [55]: windows of feedback."""

import unittest
from fractions import Fraction

from worstwait.closures import closure
from worstwait.curves import Curve, flat, late, line, rate
from worstwait.errors import BadCurve, BadNumber, BadRow
from worstwait.foldings import folding, unit
from worstwait.joined import later, raised, times
from worstwait.windows import least_window, throughput, window_for, window_run, windowed
from tests.plain import INF, NO_NUMBERS, Case, Lots, numbers, some_curve, told

BIG = 10 ** 9
NO_CURVES = (None, 0, [0, 1], "curve", True)


def plain_run(server, window, row):
    """From above: let in and given out told by one another again and again, until nothing changes."""
    gives, y = numbers(server, len(row)), [INF] * len(row)
    while True:
        x = [min(one, two + window) for one, two in zip(row, y)]
        further = [min(x[s] + gives[t - s] for s in range(t + 1)) for t in range(len(row))]
        if further == y:
            return x, told(y)
        y = further


def some_row(lots, most=30):
    row = [lots.below(5)]
    while len(row) < most and lots.below(12):
        row.append(row[-1] + lots.of([0, 0, 1, 3, 9]))
    return row


class Runs(Case):
    def test_told_by_one_another(self):
        lots = Lots(621)
        for _ in range(200):
            server, window, row = some_curve(lots), lots.below(8), some_row(lots)
            found = window_run(server, window, row)
            self.assertTrue(type(found) is tuple and [type(one) for one in found] == [list, list])
            self.assertEqual(found, plain_run(server, window, row))
            self.assertEqual(window_run(server, window, tuple(row)), found)

    def test_windowed_tells_what_is_given_out(self):
        lots = Lots(622)
        for _ in range(200):
            server, window, row = some_curve(lots), lots.below(8), some_row(lots)
            curve = windowed(server, window)
            self.assertEqual(curve, folding(closure(raised(server, window)), server))
            gives = numbers(curve, len(row))
            out = [min(row[s] + gives[t - s] for s in range(t + 1)) for t in range(len(row))]
            self.assertEqual(window_run(server, window, row)[1], told(out))

    def test_by_hand(self):
        # Two letters at once, each of which is given out 3 beats later.
        server = Curve([0, 0, 0, 0, None], 1, 0)
        for one in (server, late(3, 9, 1)):
            self.assertEqual(window_run(one, 2, [0] + [9] * 7), ([0, 2, 2, 2, 4, 4, 4, 6], [0, 0, 0, 0, 2, 2, 2, 4]))
        # What came up to beat 0 is given out at once, if b(0) is 0.
        self.assertEqual(window_run(server, 2, [9] * 8), ([9] * 8, [9] * 8))
        self.assertEqual(window_run(flat(None), 0, [1, 5, 5]), ([1, 5, 5], [None, None, None]))
        self.assertEqual(window_run(unit(), 0, [1, 5, 5]), ([1, 5, 5], [1, 5, 5]))
        self.assertEqual(window_run(flat(0), 0, [1, 5, 5]), ([1, 1, 1], [1, 1, 1]))
        self.assertEqual(window_run(flat(0), 3, [0, 5, 5]), ([0, 3, 3], [0, 0, 0]))

    def test_1_and_400_numbers(self):
        self.assertEqual(window_run(line(0, 1, 1), BIG, [BIG]), ([BIG], [BIG]))
        row = list(range(0, 800, 2))
        let_in, given_out = window_run(line(0, 1, 1), 5, row)
        self.assertEqual((let_in[-1], given_out[-1]), (404, 399))
        self.assertEqual(window_run(later(line(0, 1, 1), 4000 - 1), 7, [0] + [BIG] * 399)[0], [0] + [7] * 399)

    def test_refuses(self):
        for thing in NO_CURVES:
            self.refuses(BadCurve, window_run, thing, -1, None, part=None)
            self.refuses(BadCurve, windowed, thing, -1, part=None)
            self.refuses(BadCurve, throughput, thing, -1, part=None)
            self.refuses(BadCurve, least_window, thing, part=None)
            self.refuses(BadCurve, window_for, thing, -1, -1, part=None)
        for wrong in NO_NUMBERS + (-1, BIG + 1):
            self.refuses(BadNumber, window_run, flat(1), wrong, None, part="window")
            for call in (windowed, throughput):
                self.refuses(BadNumber, call, later(flat(1), 400), wrong, part="window")
            self.refuses(BadNumber, window_for, flat(1), wrong, 0, part="steps")
        for wrong in NO_NUMBERS + (0, -1, 61):
            self.refuses(BadNumber, window_for, flat(1), 0, wrong, part="beats")
        for row in (None, 3, "row", {}, [], (), [-1], [1, 0], [0, True], [0, None], [0.0], ["0"], [BIG + 1], [0] * 401,
                    [[0]], flat(0)):
            self.refuses(BadRow, window_run, flat(1), 0, row)


class Windows(Case):
    def test_least_window(self):
        lots = Lots(623)
        ends = {True: 0, False: 0}
        for _ in range(300):
            server = some_curve(lots)
            found = least_window(server)
            mine, twice = numbers(server, 200), numbers(folding(server, server), 200)
            gaps = [0 if two == INF else one - two for one, two in zip(mine, twice)]
            self.assertEqual(found, None if max(gaps) == INF else max([0] + gaps))
            ends[found is None] += 1
            if found is None:
                self.assertNotEqual(windowed(server, BIG), server)
            else:
                self.assertEqual(windowed(server, found), server)
                self.assertTrue(found == 0 or windowed(server, found - 1) != server)
        self.assertGreater(min(ends.values()), 20)

    def test_great_windows(self):
        self.assertEqual(least_window(late(300, BIG, 1)), 300 * BIG)
        self.assertEqual(least_window(later(times(line(0, 1, 1), BIG), 1000)), 1000 * BIG)
        self.assertEqual(least_window(unit()), 0)
        self.assertEqual(least_window(flat(None)), 0)
        self.assertEqual(least_window(flat(5)), 0)
        self.assertIsNone(least_window(Curve([0, 1, None], 1, 0)))

    def test_throughput(self):
        lots = Lots(624)
        for _ in range(200):
            server, window = some_curve(lots), lots.below(9)
            found = throughput(server, window)
            self.assertEqual(found, rate(windowed(server, window)))
            row = numbers(server, 200)
            fractions = [Fraction(one + window, t) for t, one in enumerate(row) if 0 < t and one != INF]
            if not fractions:
                self.assertIsNone(found)
            else:
                least = min(fractions)
                if row[-1] != INF:
                    least = min(least, Fraction(server.growth, server.period))
                self.assertEqual(found, (least.numerator, least.denominator))

    def test_window_for(self):
        lots = Lots(625)
        ends = {True: 0, False: 0}
        for _ in range(300):
            server, steps, beats = some_curve(lots), lots.below(9), 1 + lots.below(9)
            found = window_for(server, steps, beats)
            ends[found is None] += 1

            def is_enough(window):
                given = throughput(server, window)
                return given is None or given[0] * beats >= steps * given[1]
            if found is None:
                self.assertFalse(is_enough(10 ** 6))
            else:
                self.assertTrue(is_enough(found))
                self.assertFalse(found > 0 and is_enough(found - 1))
        self.assertGreater(min(ends.values()), 30)

    def test_bounds_of_numbers(self):
        self.assertEqual(window_for(flat(0), 0, 60), 0)
        self.assertIsNone(window_for(flat(BIG), 1, 60))
        self.assertEqual(window_for(late(3, BIG, 1), BIG, 1), 3 * BIG)
        self.assertEqual(window_for(flat(None), BIG, 1), 0)
        self.assertEqual(window_for(unit(), BIG, 1), 0)
        self.assertEqual(window_for(Curve([0, 1, 2, None], 1, 0), BIG, 1), 2 * BIG - 2)
        self.assertEqual(window_for(line(0, 1, 60), 1, 60), 1)
        self.assertIsNone(window_for(line(0, 1, 60), 1, 59))
        self.assertEqual(throughput(line(0, 59, 60), 1), (59, 60))
        self.assertEqual(throughput(line(0, 59, 60), 0), (0, 1))

    def test_too_many(self):
        for call in (windowed, throughput):
            self.too_many(400, call, later(line(0, 1, 1), 400), 1)
        self.too_many(4000, least_window, later(Curve([5] * 3 + [7], 1, 1), 3000))
        self.assertEqual(window_for(later(line(0, 1, 1), 3000), 1, 1), 3000)


if __name__ == "__main__":
    unittest.main()
