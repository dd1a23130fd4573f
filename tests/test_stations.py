"""[60]: stations."""

import unittest

from worstwait.errors import BadNumber, BadStation
from worstwait.stations import Station, is_rows, rotated
from tests.plain import NO_NUMBERS, Case

NO_STATIONS = (None, 3, ((1,), ("come", 1)), "station", ("come", 1), [1])


class Stations(Case):
    def test_attributes(self):
        for speeds in ([1, 0, 3], (1, 0, 3)):
            for rule, flows in ((("ranks", 1), 1), (("come", 4), 4), (("turns", (1, 60)), 2),
                                (("shares", (60, 1, 7, 7)), 4), (("shares", (1,)), 1)):
                station = Station(speeds, rule)
                self.assertEqual((station.speeds, station.rule, station.flows), ((1, 0, 3), rule, flows))
                self.assertIs(type(station.speeds), tuple)

    def test_equal(self):
        one = Station([1, 0], ("turns", (1, 2)))
        self.assertEqual(one, Station((1, 0), ("turns", (1, 2))))
        for other in (Station([1], ("turns", (1, 2))), Station([1, 0], ("turns", (2, 1))),
                      Station([1, 0], ("shares", (1, 2))), Station([1, 0, 1, 0], ("turns", (1, 2)))):
            self.assertNotEqual(one, other)
        self.assertNotEqual(Station([1], ("ranks", 2)), Station([1], ("come", 2)))
        self.assertFalse(one == ((1, 0), ("turns", (1, 2))))

    def test_bad_speeds(self):
        for speeds in ([], (), [0], [0, 0], [-1, 2], [1001], [True], [1, False], ["1"], [1.0], None, 1, "12",
                       {1: 1}, [1] * 61):
            self.refuses(BadStation, Station, speeds, None, part="speeds")
        Station([1] * 60, ("come", 1))
        Station([0] * 59 + [1000], ("come", 1))

    def test_bad_rule(self):
        for rule in (None, "come", ("come",), ["come", 1], ("come", 0), ("come", 5), ("come", True),
                     ("come", "1"), ("come", (1,)), ("ranks", 0), ("ranks", 5), ("ranks", 1, 1),
                     ("turns", 2), ("turns", ()), ("turns", [1, 2]), ("turns", (0,)), ("turns", (61,)),
                     ("turns", (True,)), ("turns", (1,) * 5), ("shares", 2), ("shares", (1, 1.0)),
                     ("shares", ()), ("fifo", 1), (1, 1), (None, None), (("come",), 1), ([], 1)):
            self.refuses(BadStation, Station, [1], rule, part="rule")

    def test_rotated(self):
        station = Station([1, 2, 3], ("turns", (1, 2)))
        for phase in range(60):
            told = rotated(station, phase)
            self.assertEqual(told.rule, station.rule)
            self.assertEqual(told.speeds, tuple(station.speeds[(t + phase) % 3] for t in range(3)))
        self.assertEqual(station.speeds, (1, 2, 3))
        for wrong in NO_NUMBERS + (-1, 60):
            self.refuses(BadNumber, rotated, station, wrong, part="phase")

    def test_no_stations(self):
        for thing in NO_STATIONS:
            self.refuses(BadStation, rotated, thing, -1, part=None)
            self.refuses(BadStation, is_rows, thing, None, part=None)

    def test_is_rows(self):
        one, two = Station([1], ("come", 1)), Station([1], ("ranks", 2))
        for rows in ([[0]], ((5,),), [(0,) * 60], [[12000]], ([200] * 60,)):
            self.assertIs(is_rows(one, rows), True)
        for rows in ([[0], [1]], [[1, 2], (3, 4)], [[6000], [6000]], ([0] * 60, [1] * 60)):
            self.assertIs(is_rows(two, rows), True)
        for rows in (None, 3, [], [1], [[]], [[0] * 61], [[-1]], [[True]], [[1.0]], [["1"]], ["1"], {0: [1]},
                     [{1}], [[12001]], [[1], [1]], [[None]], [[0], 1], [[[1]]]):
            self.assertIs(is_rows(one, rows), False)
        for rows in ([[0]], [[1, 2], [1]], [[1], [1, 2]], [[6000], [6001]], [[1], [1], [1]], [[], []],
                     [[1], [False]]):
            self.assertIs(is_rows(two, rows), False)


if __name__ == "__main__":
    unittest.main()
