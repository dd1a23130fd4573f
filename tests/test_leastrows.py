"""[66]: least rows."""

import unittest
from itertools import product

from worstwait.curves import flat, line
from worstwait.errors import BadNumber, BadPromises, BadStation
from worstwait.foldings import unit
from worstwait.leastrows import least_rows
from worstwait.searches import all_traffics, worst
from worstwait.stations import Station
from tests.plain import NO_NUMBERS, Case, Lots
from tests.test_plays import some_station
from tests.test_searches import flow_waits, some_promise
from tests.test_stations import NO_STATIONS


def plain_least(station, promises, flow, wait, beats):
    for many in range(1, beats + 1):
        told = []
        for rows in product(*[all_traffics(promise, many) for promise in promises]):
            if max(flow_waits(station, rows, flow), default=-1) >= wait:
                told.append((sum(map(sum, rows)), rows))
        if told:
            return min(told)[1]
    return None


class Least(Case):
    def test_of_all_rows(self):
        lots = Lots(661)
        seen = {True: 0, False: 0}
        for _ in range(150):
            station, beats = some_station(lots, 1 + lots.below(2)), 1 + lots.below(3)
            promises = [some_promise(lots) for _ in range(station.flows)]
            every = [len(all_traffics(promise, beats)) for promise in promises]
            if every[0] * every[-1] > 150:
                continue
            flow, last = lots.below(station.flows), 0
            for wait in range(5):
                found = least_rows(station, promises, flow, wait, beats)
                self.assertEqual(found, plain_least(station, promises, flow, wait, beats))
                seen[found is None] += 1
                # A longer wait never has rows of fewer beats.
                if found is not None:
                    self.assertLessEqual(last, len(found[0]))
                    last = len(found[0])
            most = worst(station, promises, flow, beats)
            if most is not None:
                self.assertIsNotNone(least_rows(station, promises, flow, most[0], beats))
                self.assertIsNone(least_rows(station, promises, flow, most[0] + 1, beats))
        self.assertGreater(min(seen.values()), 50)

    def test_by_hand(self):
        station = Station([1], ("ranks", 2))
        self.assertEqual(least_rows(station, [flat(2), flat(1)], 1, 0, 8), ((0,), (1,)))
        self.assertEqual(least_rows(station, [flat(2), flat(1)], 1, 1, 8), ((1,), (1,)))
        self.assertEqual(least_rows(station, [flat(2), flat(1)], 1, 2, 8), ((2,), (1,)))
        self.assertEqual(least_rows(station, [line(1, 1, 1), flat(1)], 1, 3, 2), ((1, 2), (1, 0)))
        self.assertIsNone(least_rows(station, [flat(2), flat(1)], 1, 4000, 5))
        self.assertIsNone(least_rows(station, [flat(2), flat(0)], 1, 0, 8))

    def test_too_many_only_ahead_of_the_answer(self):
        station = Station([1], ("ranks", 2))
        promises = [line(1, 1, 1), line(1, 1, 1)]
        self.assertEqual(least_rows(station, promises, 1, 3, 8), ((2,), (2,)))
        self.too_many(3000, least_rows, station, promises, 1, 400, 8)
        self.assertIsNone(least_rows(station, promises, 1, 400, 3))
        self.too_many(3000, least_rows, station, [unit(), flat(0)], 0, 0, 1)
        far = Station([0] * 59 + [1], ("come", 2))
        self.too_many(4000, least_rows, far, [flat(33), flat(34)], 0, 0, 1)
        # 33 letters of the flow ahead of the others: the last one leaves at beat 33 * 60 - 1.
        self.assertEqual(least_rows(far, [flat(33), flat(33)], 0, 1979, 1), ((33,), (0,)))
        self.assertIsNone(least_rows(far, [flat(33), flat(33)], 0, 1980, 1))
        self.assertEqual(least_rows(far, [flat(33), flat(33)], 1, 3959, 1), ((33,), (33,)))

    def test_refuses(self):
        station = Station([1], ("come", 2))
        for thing in NO_STATIONS:
            self.refuses(BadStation, least_rows, thing, None, None, None, None, part=None)
        for promises in (None, 3, [], [flat(1)], [flat(1)] * 3, [flat(1), None], {0: flat(1), 1: flat(1)}, "ab"):
            self.refuses(BadPromises, least_rows, station, promises, -1, -1, 0)
        for wrong in NO_NUMBERS + (-1, 2):
            self.refuses(BadNumber, least_rows, station, [unit()] * 2, wrong, -1, 0, part="flow")
        for wrong in NO_NUMBERS + (-1, 4001):
            self.refuses(BadNumber, least_rows, station, [unit()] * 2, 0, wrong, 0, part="wait")
        for wrong in NO_NUMBERS + (0, -1, 9):
            self.refuses(BadNumber, least_rows, station, [unit()] * 2, 0, 4000, wrong, part="beats")


if __name__ == "__main__":
    unittest.main()
