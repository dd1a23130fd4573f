"""[38]: measured traffics."""

import unittest

from worstwait.closures import closure, is_closed
from worstwait.curves import Curve, flat, line
from worstwait.errors import BadTraffic
from worstwait.foldings import unit
from worstwait.joined import later, most_of
from worstwait.measures import measured, measured_all
from worstwait.promises import keeps
from worstwait.traffics import curve_of
from worstwait.unfoldings import unfolding
from tests.plain import Case, Lots, numbers, some_curve
from tests.test_promises import plain_row, some_endless
from tests.test_traffics import NO_TRAFFICS, some_traffic

BIG = 10 ** 9


def plain_measure(row, many):
    """The most letters in so many beats in a row, of rows in which those behind them tell nothing new."""
    return [max(row[s + d] - row[s] for s in range(len(row) - d)) for d in range(many)]


def row_curve(row):
    """The curve of a row that stays where it ends, whatever its numbers."""
    return curve_of([two - one for one, two in zip(row, row[1:])])


class Measured(Case):
    def test_traffics(self):
        lots = Lots(511)
        for _ in range(200):
            traffic = some_traffic(lots)
            row = plain_row(traffic + [0] * 20)
            self.same(measured(traffic), plain_measure(row, 12))
            self.assertEqual(measured(tuple(traffic)), measured(traffic))
            self.assertEqual(measured(curve_of(traffic)), measured(traffic))

    def test_endless_traffics(self):
        lots = Lots(512)
        for _ in range(150):
            endless = some_endless(lots)
            self.same(measured(endless), plain_measure(numbers(endless, 100), 50))

    def test_laws(self):
        lots = Lots(513)
        seen = {True: 0, False: 0}
        for place in range(300):
            traffic = some_traffic(lots) if place % 2 else some_endless(lots)
            promise = some_curve(lots)
            told = measured(traffic)
            self.assertTrue(is_closed(told))
            self.assertEqual(told, unfolding(curve_of(traffic), curve_of(traffic)))
            kept = all(one <= two for one, two in zip(numbers(told, 200)[1:], numbers(promise, 200)[1:]))
            self.assertIs(keeps(traffic, promise), kept)
            self.assertTrue(keeps(traffic, told))
            seen[kept] += 1
        self.assertGreater(min(seen.values()), 50)

    def test_edges(self):
        for traffic, row in (([], [0]), ([0] * 1000, [0]), ([7], [0, 7]), ([0] * 999 + [7], [0, 7]),
                             ([BIG] * 1000, [BIG * t for t in range(1001)]),
                             ([0, 5, 0, 10 ** 20], [0, 10 ** 20, 10 ** 20, 10 ** 20 + 5])):
            self.assertEqual(measured(traffic), row_curve(row))
        for endless, curve in ((line(3, 1, 2), line(3, 1, 2)), (later(line(3, 1, 2), 399), line(3, 1, 2)),
                               (later(flat(3), 3000), line(3, 0, 1)), (Curve([0, 0, 4], 2, 4), Curve([0, 4, 4], 2, 4)),
                               (flat(0), flat(0))):
            self.assertEqual(measured(endless), curve)

    def test_refuses(self):
        for thing in NO_TRAFFICS:
            self.refuses(BadTraffic, measured, thing, part="traffic")


class All(Case):
    def test_greatest_of_all(self):
        lots = Lots(514)
        for _ in range(100):
            things = [some_traffic(lots) if lots.below(2) else some_endless(lots) for _ in range(1 + lots.below(5))]
            told = measured_all(things)
            rows = [numbers(measured(one), 200) for one in things]
            self.same(told, [max(column) for column in zip(*rows)])
            self.assertEqual(measured_all(tuple(things)), told)
            for one in things:
                self.assertTrue(keeps(one, told))

    def test_edges(self):
        self.assertEqual(measured_all([[]]), flat(0))
        self.assertEqual(measured_all([[1]] * 60), line(1, 0, 1))
        self.assertEqual(measured_all([[1], line(0, 1, 60), (2, 0)]), most_of(line(2, 0, 1), measured(line(0, 1, 60))))

    def test_too_many(self):
        # The one comes to be above the other one behind 4000 beats.
        slow, fast = line(4000, 0, 1), line(0, 1, 1)
        self.too_many(4000, measured_all, [slow, fast])
        self.assertEqual(len(measured_all([line(3999, 0, 1), fast]).start), 4000)
        # From left to right: without the first two nothing is left of the short one.
        self.too_many(4000, measured_all, [slow, fast, line(4000, 1, 1)])
        self.assertEqual(measured_all([slow, line(4000, 1, 1), fast]), line(4000, 1, 1))
        stair = measured(closure(Curve([0] + [1] * 67 + [None], 1, 0)))
        self.too_many(4000, measured_all, [[3], stair, line(0, 1, 60)])
        self.assertEqual(measured_all([stair, line(0, 1, 59)]), most_of(stair, measured(line(0, 1, 59))))

    def test_refuses(self):
        for things in (None, 3, [], (), [[1]] * 61, "1", {0: [1]}, [1], [[1], -1], [None], line(0, 1, 1),
                       [[1], flat(1)], [[1], unit()], [[True]], [[0] * 1001]):
            self.refuses(BadTraffic, measured_all, things, part="traffics")


if __name__ == "__main__":
    unittest.main()
