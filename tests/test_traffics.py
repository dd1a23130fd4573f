"""[30]: traffics, rows and endless traffics."""

import unittest

from worstwait.curves import Curve, flat, line, values
from worstwait.errors import BadNumber, BadTraffic
from worstwait.foldings import unit
from worstwait.joined import later, times
from worstwait.traffics import curve_of, first_beats, is_endless, is_row, is_traffic, row_of, traffic_of
from tests.plain import NO_NUMBERS, Case, Lots, long_curve, numbers

BIG = 10 ** 9
NO_TRAFFICS = (None, 3, "traffic", "12", {}, {0: 1}, {1}, [-1], [True], [1, False], [1.0], ["1"], [None], [[1]],
               [0] * 1001, (1,) * 1001, unit(), flat(1), range(3))
NO_ROWS = (None, 3, "0", {}, {0: 1}, [], (), [1], [0, -1], [0, 2, 1], [0, True], [False], [0, 1.0], [0, None],
           ["0"], [[0]], [0] * 1002, flat(0), range(3))


def some_traffic(lots, longest=8, most=3):
    return [lots.below(most + 1) for _ in range(lots.below(longest + 1))]


class Judged(Case):
    def test_is_traffic(self):
        for thing in ([], (), [0], (5, 0, 10 ** 30), [1] * 1000, (0,) * 1000):
            self.assertIs(is_traffic(thing), True)
        for thing in NO_TRAFFICS:
            self.assertIs(is_traffic(thing), False)

    def test_is_row(self):
        for thing in ([0], (0,), [0, 0, 5, 5, 10 ** 30], [0] * 1001, tuple(range(1001))):
            self.assertIs(is_row(thing), True)
        for thing in NO_ROWS:
            self.assertIs(is_row(thing), False)

    def test_is_endless(self):
        for thing in (flat(0), line(3, 1, 7), Curve([0, 0, 9], 2, 9), later(line(3, 1, 7), 3990),
                      times(line(BIG, BIG, 1), BIG)):
            self.assertIs(is_endless(thing), True)
        for thing in (unit(), flat(None), flat(1), Curve([0, 5, None], 1, 0), [], [0], None, 0, (0,), "0"):
            self.assertIs(is_endless(thing), False)


class Rows(Case):
    def test_there_and_back(self):
        lots = Lots(201)
        for _ in range(100):
            traffic = some_traffic(lots)
            row = row_of(traffic)
            self.assertIs(type(row), tuple)
            self.assertEqual(row, tuple(sum(traffic[:beat]) for beat in range(len(traffic) + 1)))
            for thing in (row, list(row)):
                self.assertEqual(traffic_of(thing), tuple(traffic))
                self.assertIs(type(traffic_of(thing)), tuple)
            self.assertEqual(row_of(tuple(traffic)), row)

    def test_edges(self):
        self.assertEqual(row_of([]), (0,))
        self.assertEqual(traffic_of([0]), ())
        self.assertEqual(row_of([1] * 1000), tuple(range(1001)))
        self.assertEqual(traffic_of(list(range(1001))), (1,) * 1000)

    def test_curve_of(self):
        lots = Lots(202)
        for _ in range(100):
            traffic = some_traffic(lots)
            told = curve_of(traffic)
            self.assertTrue(is_endless(told))
            row = list(row_of(traffic))
            self.same(told, row + [row[-1]] * 10)
            self.assertEqual(curve_of(told), told)
            self.assertEqual(curve_of(traffic + [0]), told)
        self.assertEqual(curve_of([]), flat(0))
        self.assertEqual(len(curve_of([1] * 1000).start), 1001)
        self.assertEqual(values(curve_of((10 ** 30, 0, 1)), 5), [0, 10 ** 30, 10 ** 30, 10 ** 30 + 1, 10 ** 30 + 1])

    def test_first_beats(self):
        lots = Lots(203)
        for curve in (line(3, 2, 7), Curve([0, 0, 9], 2, 9), flat(0), long_curve(4000)):
            row = numbers(curve, 1001)
            for beats in (0, 1, 2, lots.below(900), 1000):
                told = first_beats(curve, beats)
                self.assertIs(type(told), tuple)
                self.assertEqual(told, tuple(two - one for one, two in zip(row, row[1:beats + 1])))

    def test_what_is_handed_in_stays(self):
        traffic = [1, 2]
        row_of(traffic), curve_of(traffic)
        self.assertEqual(traffic, [1, 2])


class Wrong(Case):
    def test_refuses(self):
        for thing in NO_TRAFFICS:
            self.refuses(BadTraffic, row_of, thing, part="traffic")
            self.refuses(BadTraffic, curve_of, thing, part="traffic")
        self.refuses(BadTraffic, row_of, line(1, 1, 1), part="traffic")
        for thing in NO_ROWS:
            self.refuses(BadTraffic, traffic_of, thing, part="row")
        for thing in NO_TRAFFICS + ([], [1]):
            self.refuses(BadTraffic, first_beats, thing, -1, part="endless")
        for wrong in NO_NUMBERS + (-1, 1001):
            self.refuses(BadNumber, first_beats, line(1, 1, 1), wrong, part="beats")


if __name__ == "__main__":
    unittest.main()
