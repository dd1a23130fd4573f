"""[64], [65], [68]: searches."""

import unittest
from itertools import product

from worstwait.closures import closure
from worstwait.curves import Curve, flat, line
from worstwait.errors import BadCurve, BadNumber, BadPromises, BadStation, NoEnd
from worstwait.foldings import unit
from worstwait.joined import later
from worstwait.plays import letter_waits
from worstwait.promises import keeps
from worstwait.searches import all_traffics, never_worse, worst, worst_heap, worst_phase
from worstwait.stations import Station, rotated
from worstwait.toldbounds import told_heap, told_wait
from tests.plain import NO_NUMBERS, Case, Lots, some_curve
from tests.test_closures import two_parts
from tests.test_plays import plain_play, some_station
from tests.test_promises import plain_breach, plain_row
from tests.test_stationlines import NO_SPEEDS, plain_line, some_speeds
from tests.test_stations import NO_STATIONS

BIG = 10 ** 9


def some_promise(lots):
    return lots.of([flat(lots.below(3)), line(lots.below(3), 1, 1 + lots.below(3)), some_curve(lots, 4, 2, False)])


def plain_traffics(promise, beats, most):
    """All of them, by trying all numbers up to most."""
    return [one for one in product(range(most + 1), repeat=beats) if plain_breach(plain_row(one), promise) is None]


def flow_waits(station, rows, flow):
    run = plain_play(station, rows)
    return [beat - came for beat, gone in enumerate(run) for one, came in gone if one == flow]


def flow_heap(station, rows, flow):
    run = plain_play(station, rows)
    return max(sum(rows[flow][:beat + 1]) - sum(one == flow for gone in run[:beat + 1] for one, _ in gone)
               for beat in range(len(run)))


class All(Case):
    def test_all_that_keep_it(self):
        lots = Lots(651)
        for _ in range(150):
            promise, beats = some_curve(lots, 4, 2, False), 1 + lots.below(4)
            most = promise.start[1] if len(promise.start) > 1 else promise.start[0] + promise.growth
            if (most + 2) ** beats > 2000:
                continue
            told = all_traffics(promise, beats)
            self.assertEqual(told, plain_traffics(promise, beats, most + 1))
            self.assertTrue(type(told) is list and all(type(one) is tuple for one in told))

    def test_by_hand(self):
        self.assertEqual(all_traffics(flat(1), 2), [(0, 0), (0, 1), (1, 0)])
        self.assertEqual(all_traffics(flat(0), 8), [(0,) * 8])
        self.assertEqual(all_traffics(Curve([1, 2, 3, None], 1, 0), 2), [(0, 0), (0, 1), (0, 2), (1, 0), (1, 1), (1, 2),
                                                                        (2, 0), (2, 1)])

    def test_3000_and_one_more(self):
        self.assertEqual(all_traffics(flat(2999), 1), [(letters,) for letters in range(3000)])
        self.too_many(3000, all_traffics, flat(3000), 1)
        self.too_many(3000, all_traffics, flat(BIG), 8)
        self.too_many(3000, all_traffics, unit(), 1)
        self.too_many(3000, all_traffics, flat(None), 8)
        self.assertEqual(len(all_traffics(line(0, 1, 1), 8)), 256)
        self.assertEqual(len(all_traffics(Curve([0, 54, 54], 1, 0), 2)), 55 * 56 // 2)
        self.assertEqual(len(all_traffics(line(0, 2, 1), 7)), 2187)
        self.too_many(3000, all_traffics, line(0, 2, 1), 8)
        # No closure is taken.
        self.assertEqual(len(all_traffics(later(flat(1), 400), 8)), 1)
        self.assertEqual(len(all_traffics(two_parts(64, 10), 1)), 640)

    def test_refuses(self):
        for thing in (None, 0, [0, 1], "curve"):
            self.refuses(BadCurve, all_traffics, thing, 0, part=None)
        for wrong in NO_NUMBERS + (0, -1, 9):
            self.refuses(BadNumber, all_traffics, unit(), wrong, part="beats")


class Worst(Case):
    def test_of_all_rows(self):
        lots = Lots(652)
        seen = 0
        for _ in range(150):
            station, beats = some_station(lots, 1 + lots.below(3)), 1 + lots.below(3)
            promises = [some_promise(lots) for _ in range(station.flows)]
            every = [all_traffics(promise, beats) for promise in promises]
            rows = list(product(*every))
            if len(rows) > 150:
                continue
            flow = lots.below(station.flows)
            waits = [(max(flow_waits(station, one, flow), default=-1), one) for one in rows]
            heaps = [(flow_heap(station, one, flow), one) for one in rows]
            longest, most = max(waits, key=lambda one: one[0])[0], max(one[0] for one in heaps)
            wanted = None if longest < 0 else (longest, min(one[1] for one in waits if one[0] == longest))
            self.assertEqual(worst(station, promises, flow, beats), wanted)
            self.assertEqual(worst_heap(station, tuple(promises), flow, beats),
                             (most, min(one[1] for one in heaps if one[0] == most)))
            wait, heap = told_wait(station, promises, flow), told_heap(station, promises, flow)
            self.assertTrue(wait is None or longest <= wait)
            self.assertTrue(heap is None or most <= heap)
            seen += wanted is not None
        self.assertGreater(seen, 60)

    def test_by_hand(self):
        station = Station([1], ("ranks", 2))
        self.assertEqual(worst(station, [flat(2), flat(1)], 1, 2), (2, ((0, 2), (0, 1))))
        self.assertEqual(worst(station, [flat(2), flat(0)], 1, 2), None)
        self.assertEqual(worst_heap(station, [flat(2), flat(0)], 1, 2), (0, ((0, 0), (0, 0))))
        self.assertEqual(worst(station, [flat(2), flat(1)], 0, 1), (1, ((2,), (0,))))
        self.assertEqual(worst_heap(station, [flat(2), flat(1)], 0, 1), (1, ((2,), (0,))))
        self.assertEqual(worst(Station([0, 1], ("come", 1)), [flat(1)], 0, 8), (1, ((0, 0, 0, 0, 0, 0, 1, 0),)))

    def test_3000_rows_and_one_more(self):
        station = Station([1000], ("ranks", 2))
        self.assertEqual(worst(station, [flat(49), flat(59)], 1, 1), (0, ((0,), (1,))))
        for call in (worst, worst_heap):
            self.too_many(3000, call, station, [flat(49), flat(60)], 1, 1)
            self.too_many(3000, call, station, [flat(BIG), flat(0)], 0, 1)
            self.too_many(3000, call, station, [flat(0), unit()], 0, 1)
        self.assertEqual(worst_heap(Station([1000], ("come", 1)), [flat(2999)], 0, 1), (1999, ((2999,),)))

    def test_more_than_4000_beats(self):
        station = Station([0] * 59 + [1], ("come", 2))
        self.assertEqual(worst(station, [flat(33), flat(33)], 0, 1), (33 * 60 - 1, ((33,), (0,))))
        for call in (worst, worst_heap):
            self.too_many(4000, call, station, [flat(33), flat(34)], 0, 1)
            self.too_many(3000, call, station, [flat(55), flat(55)], 0, 1)

    def test_refuses(self):
        station = Station([1], ("come", 2))
        for call in (worst, worst_heap):
            for thing in NO_STATIONS:
                self.refuses(BadStation, call, thing, None, None, None, part=None)
            for promises in (None, 3, [], [flat(1)], [flat(1)] * 3, [flat(1), None], {0: flat(1), 1: flat(1)}, "ab"):
                self.refuses(BadPromises, call, station, promises, -1, 0)
            for wrong in NO_NUMBERS + (-1, 2):
                self.refuses(BadNumber, call, station, [unit()] * 2, wrong, 0, part="flow")
            for wrong in NO_NUMBERS + (0, -1, 9):
                self.refuses(BadNumber, call, station, [unit()] * 2, 1, wrong, part="beats")


class Phases(Case):
    def test_the_told_wait_is_come_to(self):
        lots = Lots(653)
        seen = {}
        for _ in range(300):
            speeds, promise = some_speeds(lots), some_curve(lots, 5, 3)
            wait = told_wait(Station(speeds, ("come", 1)), [promise], 0)
            if closure(promise).start[-1] is None or wait is None:
                self.refuses(NoEnd, worst_phase, speeds, promise)
                seen["no end"] = seen.get("no end", 0) + 1
                continue
            found = worst_phase(tuple(speeds), promise)
            phase, traffic = found
            self.assertTrue(type(found) is tuple and type(traffic) is tuple and 0 <= phase < len(speeds))
            self.assertTrue(keeps(traffic, promise))
            if closure(promise) == flat(0):
                self.assertEqual(found, (0, (0,)))
            if found != (0, (0,)):
                ends = plain_line([speeds[phase:] + speeds[:phase]], traffic)[0]
                begins = [beat for beat, letters in enumerate(traffic) for _ in range(letters)]
                waits = [end - begin for begin, end in zip(begins, ends)]
                self.assertEqual(max(waits), wait)
                if len(traffic) <= 60:
                    turned = rotated(Station(speeds, ("come", 1)), phase)
                    self.assertEqual(list(letter_waits(turned, [traffic])[0]), waits)
            seen[wait > 0] = seen.get(wait > 0, 0) + 1
        self.assertEqual(len(seen), 3)
        self.assertGreater(min(seen.values()), 20)

    def test_edges(self):
        self.assertEqual(worst_phase([1], flat(0)), (0, (0,)))
        self.assertEqual(worst_phase([1], Curve([0, 0, 5], 1, 1)), (0, (0,)))
        for speeds, promise in (([1], unit()), ([1], flat(None)), ([1], line(0, 2, 1)), ([0, 1], line(1, 59, 60))):
            self.refuses(NoEnd, worst_phase, speeds, promise)
        phase, traffic = worst_phase([0] * 59 + [1], flat(BIG))
        self.assertEqual((phase, traffic), (0, (BIG,)))
        self.assertEqual(told_wait(Station([0] * 59 + [1], ("come", 1)), [flat(BIG)], 0), 60 * BIG - 1)

    def test_1000_beats_and_more(self):
        # As in the tests of [73]: the longest wait is 1 behind whole parts, and just ahead of 1 behind whole tables.
        for part, many, beat in ((27, 41, 1000), (200, 11, 1001)):
            promise, speeds = Curve([0] + [part] * part + [None], 1, 0), [0] * (many - 1) + [many]
            if beat > 1000:
                self.too_many(1000, worst_phase, speeds, promise)
                continue
            phase, traffic = worst_phase(speeds, promise)
            self.assertEqual(len(traffic), 1000)
            ends = plain_line([speeds[phase:] + speeds[:phase]], traffic)[0]
            begins = [one for one, letters in enumerate(traffic) for _ in range(letters)]
            self.assertEqual(max(end - begin for begin, end in zip(begins, ends)), part + many - 2)

    def test_too_many(self):
        self.too_many(4000, worst_phase, [1], two_parts(64, 10))
        self.too_many(400, worst_phase, [1], later(flat(1), 400))

    def test_refuses(self):
        for speeds in NO_SPEEDS:
            self.refuses(BadStation, worst_phase, speeds, None, part="speeds")
        for thing in (None, 0, [0, 1], "curve"):
            self.refuses(BadCurve, worst_phase, [1], thing, part=None)


class Never(Case):
    def test_all_rows(self):
        lots = Lots(654)
        seen = {True: 0, False: 0}
        for _ in range(120):
            flows = 1 + lots.below(3)
            beats = 1 + lots.below(4 // flows)
            one, two = some_station(lots, flows), some_station(lots, flows)
            wanted = None
            for cells in product(range(3), repeat=flows * beats):
                rows = tuple(cells[k * beats:(k + 1) * beats] for k in range(flows))
                longest = [max([beat - came for beat, gone in enumerate(plain_play(station, rows)) for _, came in gone],
                               default=0) for station in (one, two)]
                if longest[0] > longest[1]:
                    wanted = rows
                    break
            self.assertEqual(never_worse(one, two, beats), wanted)
            seen[wanted is None] += 1
        self.assertGreater(min(seen.values()), 20)

    def test_the_fairest(self):
        lots = Lots(655)
        for _ in range(60):
            flows = 1 + lots.below(4)
            other = some_station(lots, flows)
            self.assertIsNone(never_worse(Station(other.speeds, ("come", flows)), other, 1 + lots.below(4 // flows)))

    def test_6561_rows_and_more(self):
        for flows, beats in ((4, 2), (2, 4), (1, 4)):
            station = Station([1], ("come", flows))
            self.assertIsNone(never_worse(station, station, beats))
        for flows, beats in ((4, 3), (3, 3), (3, 4), (4, 4)):
            station = Station([1], ("come", flows))
            self.too_many(6561, never_worse, station, station, beats)

    def test_refuses(self):
        one, two = Station([1], ("come", 4)), Station([1], ("come", 2))
        for thing in NO_STATIONS:
            self.refuses(BadStation, never_worse, thing, two, 0, part=None)
            self.refuses(BadStation, never_worse, one, thing, 0, part=None)
        self.refuses(BadStation, never_worse, one, two, 0, part="flows")
        for wrong in NO_NUMBERS + (0, -1, 5):
            self.refuses(BadNumber, never_worse, one, one, wrong, part="beats")


if __name__ == "__main__":
    unittest.main()
