"""[62]: told bounds of stations."""

import unittest

from worstwait.bounds import greatest_heap, longest_wait
from worstwait.curves import Curve, flat, line
from worstwait.errors import BadNumber, BadPromises, BadStation, NotTold
from worstwait.foldings import unit
from worstwait.gates import gate_curve
from worstwait.joined import later, raised, sum_of
from worstwait.measures import measured
from worstwait.plays import left_heaps, letter_waits
from worstwait.promises import keeps
from worstwait.ranks import left_by_rank
from worstwait.sharing import left_by_shares, left_by_turns
from worstwait.stations import Station, rotated
from worstwait.toldbounds import left_to, told_heap, told_wait
from tests.plain import NO_NUMBERS, Case, Lots, some_curve
from tests.test_closures import two_parts
from tests.test_plays import some_rows, some_station
from tests.test_stations import NO_STATIONS


def number(found):
    return None if found is None else found[0]


def plain_left(station, promises, flow):
    service = gate_curve(station.speeds)
    word, parts = station.rule
    if word == "ranks":
        return left_by_rank(service, list(promises)[:flow])
    if word == "turns":
        return left_by_turns(service, list(parts), flow)
    return left_by_shares(service, list(parts), flow) if word == "shares" else service


class Told(Case):
    def test_made_of(self):
        lots = Lots(641)
        seen = {}
        for _ in range(150):
            station = some_station(lots)
            promises = [some_curve(lots, 5, 2) for _ in range(station.flows)]
            for flow in range(station.flows):
                promise = promises[flow]
                if station.rule[0] == "come":
                    left, promise = gate_curve(station.speeds), promises[0]
                    for other in promises[1:]:
                        promise = sum_of(promise, other)
                    if station.flows > 1:
                        self.refuses(NotTold, left_to, station, promises, flow)
                    else:
                        self.assertEqual(left_to(station, promises, flow), left)
                else:
                    left = left_to(station, promises, flow)
                    self.assertEqual(left, plain_left(station, promises, flow))
                wait, heap = told_wait(station, promises, flow), told_heap(station, tuple(promises), flow)
                self.assertEqual(wait, number(longest_wait(promise, left)))
                self.assertEqual(heap, number(greatest_heap(promise, left)))
                kind = station.rule[0], wait is None
                seen[kind] = seen.get(kind, 0) + 1
        self.assertEqual(len(seen), 8)

    def test_never_passed(self):
        lots = Lots(642)
        tight = {}
        for _ in range(500):
            station = some_station(lots)
            rows = some_rows(lots, station.flows, 5, 3)
            promises = [raised(measured(row), lots.of([0, 0, 1])) for row in rows]
            self.assertTrue(all(keeps(row, promise) for row, promise in zip(rows, promises)))
            turned = rotated(station, lots.below(60))
            waits, heaps = letter_waits(turned, rows), left_heaps(turned, rows)
            for flow in range(station.flows):
                wait, heap = told_wait(station, promises, flow), told_heap(station, promises, flow)
                longest = max(waits[flow], default=0)
                self.assertTrue(wait is None or longest <= wait)
                self.assertTrue(heap is None or max(row[flow] for row in heaps) <= heap)
                if wait is not None and 0 < wait == longest:
                    tight[station.rule[0]] = tight.get(station.rule[0], 0) + 1
        self.assertEqual(len(tight), 4)

    def test_by_hand(self):
        promises = [line(2, 0, 1), line(0, 1, 1)]
        for rule, waits, heaps in ((("ranks", 2), (0, 1), (0, 1)), (("come", 2), (1, 1), (1, 1)),
                                   (("turns", (1, 1)), (1, 0), (1, 0))):
            station = Station([2], rule)
            self.assertEqual(tuple(told_wait(station, promises, flow) for flow in (0, 1)), waits)
            self.assertEqual(tuple(told_heap(station, promises, flow) for flow in (0, 1)), heaps)

    def test_without_end(self):
        for rule in (("ranks", 2), ("come", 2), ("turns", (1, 1)), ("shares", (1, 1))):
            station = Station([2, 0], rule)
            for promises in ([flat(None)] * 2, [unit(), unit()], [line(1, 2, 1)] * 2):
                self.assertIsNone(told_wait(station, promises, 1))
                self.assertIsNone(told_heap(station, promises, 1))
            self.assertEqual(told_wait(station, [flat(0), flat(0)], 0), 0)
        # What is ranked ahead takes all.
        self.assertEqual(told_heap(Station([1], ("ranks", 2)), [line(0, 1, 1), flat(3)], 1), 3)
        self.assertIsNone(told_wait(Station([1], ("ranks", 2)), [line(0, 1, 1), flat(3)], 1))

    def test_too_many(self):
        station = Station([1], ("ranks", 2))
        for call in (told_wait, told_heap):
            self.too_many(400, call, station, [later(line(0, 1, 1), 400), flat(1)], 1)
            self.too_many(4000, call, station, [flat(1), two_parts(64, 10)], 1)
            self.too_many(400, call, station, [later(line(0, 1, 1), 400), flat(1)], 0)
            # Of the flows behind it nothing is worked out.
            self.assertEqual(call(station, [flat(1), two_parts(64, 10)], 0), 0)
        self.too_many(400, left_to, station, [later(line(0, 1, 1), 400), flat(1)], 1)
        self.assertEqual(left_to(station, [later(line(0, 1, 1), 400), flat(1)], 0), line(0, 1, 1))

    def test_refuses(self):
        station = Station([1], ("come", 2))
        for call in (left_to, told_wait, told_heap):
            for thing in NO_STATIONS:
                self.refuses(BadStation, call, thing, None, None, part=None)
            for promises in (None, 3, [], [flat(1)], [flat(1)] * 3, [flat(1), None], {0: flat(1), 1: flat(1)}, "ab",
                             [flat(1), [0, 1]], flat(1)):
                self.refuses(BadPromises, call, station, promises, None)
            for wrong in NO_NUMBERS + (-1, 2):
                self.refuses(BadNumber, call, station, [later(flat(1), 400)] * 2, wrong, part="flow")
        self.refuses(NotTold, left_to, station, [later(flat(1), 400)] * 2, 1)
        self.assertEqual(left_to(Station([1, 0], ("come", 1)), [Curve([3, None], 1, 0)], 0), gate_curve((1, 0)))


if __name__ == "__main__":
    unittest.main()
