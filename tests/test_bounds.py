"""[43], [44]: waits, heaps and what goes out."""

import unittest

from worstwait.bounds import goes_out, greatest_heap, heap_run, longest_wait, out_run, wait_run
from worstwait.closures import closure, is_closed
from worstwait.curves import Curve, flat, late, line, value
from worstwait.errors import BadCurve, BadNumber
from worstwait.foldings import unit
from worstwait.joined import later, raised, times
from worstwait.promises import keeps
from worstwait.runs import is_run, run_heaps, run_waits
from worstwait.services import keeps_service, least_gone
from worstwait.traffics import traffic_of
from tests.plain import INF, NO_NUMBERS, Case, Lots, long_curve, numbers, some_curve
from tests.test_closures import plain_closure, two_parts
from tests.test_promises import plain_row
from tests.test_ways import stair

BIG = 10 ** 9
NO_CURVES = (None, 0, [0, 1], "curve", True)


def gives(service, many):
    """What a service gives at the first beats, 0 at beat 0."""
    return [0] + numbers(service, many)[1:]


def plain_wait(promise, service, many=160, far=3000):
    """The longest wait of the first so many beats, and the least beat with it; None without end."""
    most, its = plain_closure(promise, many), gives(service, far)
    waits = []
    for t in range(many):
        end = t
        while end < far and its[end] < most[t]:
            end += 1
        waits.append(end - t if end < far else INF)
    longest = max(waits)
    if longest == INF or longest > max(waits[:many // 2]):
        return None
    return longest, waits.index(longest)


def plain_heap(promise, service, many=160):
    """The greatest heap likewise."""
    most, its = plain_closure(promise, many), gives(service, many)
    heaps = [0 if two == INF else one - two for one, two in zip(most, its)]
    greatest = max(heaps)
    if greatest == INF or greatest > max(heaps[:many // 2]):
        return None
    return greatest, heaps.index(greatest)


def plain_out(promise, service, beats, far=160):
    """The greatest of what goes out in so many beats, and the least beat u of it."""
    most, its = plain_closure(promise, beats + far), gives(service, far)
    told = [(most[beats + u] - its[u], -u) for u in range(far) if its[u] != INF]
    return max(told)[0], -max(told)[1]


def lawful_run(lots, promise, service, beats=14):
    """A run whose came keeps the promise, and that keeps the service: not always the least one."""
    came = [0]
    most = numbers(promise, beats + 1)
    for t in range(1, beats + 1):
        room = min(most[t - s] + came[s] for s in range(t)) - came[-1]
        room = 9 if room == INF else room
        came.append(came[-1] + lots.of([0, room, lots.below(room + 1)]))
    gone = [0]
    for t, least in enumerate(least_gone(came, service)):
        if t > 0:
            gone.append(max(gone[-1], least) + lots.of([0, 0, lots.below(came[t] - max(gone[-1], least) + 1)]))
    return came, gone


class Bounds(Case):
    def test_beat_by_beat(self):
        lots = Lots(531)
        ends = {True: 0, False: 0}
        for _ in range(250):
            promise, service = some_curve(lots, 5, 3), some_curve(lots, 6, 5)
            wait, heap = longest_wait(promise, service), greatest_heap(promise, service)
            self.assertEqual(wait, plain_wait(promise, service))
            self.assertEqual(heap, plain_heap(promise, service))
            ends[wait is None] += 1
        self.assertGreater(min(ends.values()), 40)

    def test_beat_0_of_the_service_means_nothing(self):
        lots = Lots(532)
        for _ in range(100):
            promise, service = some_curve(lots, 5, 3), some_curve(lots, 6, 5, False)
            row = list(service.start) + [service.start[-service.period] + service.growth]
            for first in range(row[0] + 1):
                other = Curve([first] + row[1:], service.period, service.growth)
                for call in (longest_wait, greatest_heap, goes_out, wait_run, heap_run):
                    self.assertEqual(call(promise, other), call(promise, service))

    def test_by_hand(self):
        self.assertEqual(longest_wait(line(3, 1, 1), late(2, 2, 1)), (3, 1))
        self.assertEqual(greatest_heap(line(3, 1, 1), late(2, 2, 1)), (5, 2))
        self.assertEqual(wait_run(line(3, 1, 1), late(2, 2, 1)), ((0, 4, 5, 6, 7), (0, 0, 0, 2, 4)))
        self.assertEqual(heap_run(line(3, 1, 1), late(2, 2, 1)), ((0, 4, 5), (0, 0, 0)))

    def test_ends(self):
        ending = Curve([0, 3, 5, None], 1, 0)
        for promise, service, wait, heap in (
                (flat(None), ending, (2, 1), None), (flat(None), unit(), (0, 0), (0, 0)),
                (flat(None), flat(None), (0, 0), (0, 0)), (flat(None), line(0, 9, 1), None, None),
                (flat(0), flat(0), (0, 0), (0, 0)), (flat(1), flat(0), None, (1, 1)),
                (flat(5), Curve([0, 5], 1, 0), (0, 0), (0, 0)), (line(1, 1, 1), ending, (0, 0), (0, 0)),
                (line(5, 1, 1), ending, (2, 1), (3, 1)), (flat(7), flat(7), (0, 0), (0, 0)),
                (line(1, 59, 60), line(0, 58, 59), None, None), (line(1, 58, 59), line(0, 59, 60), (1, 1), (1, 1))):
            self.assertEqual(longest_wait(promise, service), wait)
            self.assertEqual(greatest_heap(promise, service), heap)

    def test_never_passed(self):
        lots = Lots(533)
        for _ in range(200):
            promise, service = some_curve(lots, 5, 3), some_curve(lots, 6, 5)
            run = lawful_run(lots, promise, service)
            self.assertTrue(is_run(run) and keeps(traffic_of(run[0]), promise) and keeps_service(run, service))
            wait, heap = longest_wait(promise, service), greatest_heap(promise, service)
            if wait is not None:
                self.assertLessEqual(max(one for one in run_waits(run) if one is not None), wait[0])
            if heap is not None:
                self.assertLessEqual(max(run_heaps(run)), heap[0])
            out = goes_out(promise, service)
            if out is not None:
                self.assertTrue(keeps(traffic_of(run[1]), out))

    def test_periods_however_unlike(self):
        # Nothing in [43] and [44] tells of curves that are too unlike: 67 * 60 beats go by until all comes again.
        for one, two in ((times(stair(67), 60), times(line(0, 1, 60), 67)), (stair(67), line(0, 1, 60)),
                         (times(stair(67), 2), line(0, 1, 30)), (stair(61), line(0, 2, 59))):
            f, g = numbers(one, 8400), gives(two, 8400)
            heaps = [mine - its for mine, its in zip(f, g)]
            self.assertEqual(greatest_heap(one, two), (max(heaps), heaps.index(max(heaps))))
            waits, end = [], 0
            for t in range(8000):
                end = max(end, t)
                while g[end] < f[t]:
                    end += 1
                waits.append(end - t)
            self.assertEqual(longest_wait(one, two), (max(waits), waits.index(max(waits))))
            for beats in (1, 2, 59, 66, 67):
                told = [f[beats + u] - g[u] for u in range(8300)]
                self.assertEqual(value(goes_out(one, two), beats), max(told))
                if told.index(max(told)) + beats <= 1000:
                    self.assertEqual(out_run(one, two, beats)[1], told.index(max(told)))
                else:
                    self.too_many(1000, out_run, one, two, beats)
        self.assertIsNone(longest_wait(times(stair(67), 67), times(line(0, 1, 60), 59)))


class Runs(Case):
    def test_runs_come_to_it(self):
        lots = Lots(534)
        for _ in range(200):
            promise, service = some_curve(lots, 5, 3), some_curve(lots, 6, 5)
            closed = closure(promise)
            wait, run = longest_wait(promise, service), wait_run(promise, service)
            self.assertIs(run is None, wait is None)
            if wait is not None:
                self.shows(run, promise, service, sum(wait))
                self.assertEqual(run_waits(run)[wait[1]], wait[0])
            heap, run = greatest_heap(promise, service), heap_run(promise, service)
            self.assertIs(run is None, heap is None)
            if heap is not None:
                self.shows(run, promise, service, heap[1])
                self.assertEqual(run_heaps(run)[heap[1]], heap[0])
            if closed.start[-1] is not None and run is not None:
                self.assertEqual(list(run[0]), numbers(closed, len(run[0])))

    def shows(self, run, promise, service, last):
        self.assertTrue(is_run(run) and all(type(row) is tuple for row in run))
        self.assertEqual(len(run[0]), last + 1)
        self.assertTrue(keeps(traffic_of(run[0]), promise))
        self.assertEqual(run[1], least_gone(run[0], service))

    def test_all_at_once(self):
        ending = Curve([0, 3, 5, None], 1, 0)
        self.assertEqual(wait_run(flat(None), ending), ((0, 6, 6, 6), (0, 3, 5, 6)))
        self.assertEqual(wait_run(flat(None), Curve([7, 7, None], 1, 0)), ((0, 8, 8), (0, 7, 8)))
        self.assertIsNone(heap_run(flat(None), ending))
        self.assertEqual(heap_run(flat(None), unit()), ((0,), (0,)))
        self.assertEqual(wait_run(flat(None), unit()), ((0,), (0,)))

    def test_1000_beats_and_one_more(self):
        self.assertEqual(len(wait_run(flat(1), later(line(0, 1, 1), 999))[0]), 1001)
        self.assertEqual(longest_wait(flat(1), later(line(0, 1, 1), 999)), (999, 1))
        self.too_many(1000, wait_run, flat(1), later(line(0, 1, 1), 1000))
        # The bound itself is told however late it is come to.
        self.assertEqual(longest_wait(flat(BIG), line(0, 1, 60)), (60 * BIG - 1, 1))
        self.too_many(1000, wait_run, flat(BIG), line(0, 1, 60))
        promise = Curve([0] + [1] * 19 + [2] + [2] * 19, 20, 1)
        self.assertEqual(heap_run(promise, flat(0)), None)
        self.assertEqual(greatest_heap(line(0, 1, 1), later(line(0, 1, 1), 1000)), (1000, 1000))
        self.assertEqual(len(heap_run(line(0, 1, 1), later(line(0, 1, 1), 1000))[0]), 1001)
        self.too_many(1000, heap_run, line(0, 1, 1), later(line(0, 1, 1), 1001))

    def test_too_many_of_closures(self):
        for call in (longest_wait, greatest_heap, wait_run, heap_run, goes_out):
            self.too_many(400, call, later(line(0, 1, 1), 400), flat(1))
            self.too_many(4000, call, two_parts(64, 10), flat(1))
        self.too_many(400, out_run, later(line(0, 1, 1), 400), flat(1), 5)

    def test_long_services(self):
        service = long_curve(4000)
        self.assertEqual(longest_wait(flat(5), service), (3998, 1))
        self.assertEqual(greatest_heap(flat(5), service), (5, 1))
        self.assertEqual(goes_out(flat(5), service), line(5, 0, 1))

    def test_refuses(self):
        for thing in NO_CURVES:
            for call in (longest_wait, greatest_heap, wait_run, heap_run, goes_out):
                self.refuses(BadCurve, call, thing, flat(1), part=None)
                self.refuses(BadCurve, call, later(flat(1), 400), thing, part=None)


class Outs(Case):
    def test_greatest_of_what_goes_out(self):
        lots = Lots(535)
        seen = {True: 0, False: 0}
        for _ in range(200):
            promise, service = some_curve(lots, 5, 3), some_curve(lots, 6, 5)
            out = goes_out(promise, service)
            self.assertIs(out is None, greatest_heap(promise, service) is None)
            seen[out is None] += 1
            if out is not None:
                self.same(out, [0] + [plain_out(promise, service, beats)[0] for beats in range(1, 30)])
                self.assertTrue(is_closed(out))
        self.assertGreater(min(seen.values()), 40)

    def test_runs_come_to_it(self):
        lots = Lots(536)
        told = 0
        for _ in range(200):
            promise, service, beats = some_curve(lots, 5, 3), some_curve(lots, 6, 5), 1 + lots.below(12)
            out, found = goes_out(promise, service), out_run(promise, service, beats)
            self.assertIs(found is None, out is None or value(out, beats) is None)
            if found is None:
                continue
            told += 1
            run, begin = found
            came, gone = run
            self.assertTrue(is_run(run) and type(found) is tuple and type(came) is tuple and type(gone) is tuple)
            self.assertEqual(begin, plain_out(promise, service, beats)[1])
            self.assertEqual(list(came), numbers(closure(promise), begin + beats + 1))
            self.assertEqual(gone, least_gone(came, service)[:begin + 1] + came[begin + 1:])
            self.assertTrue(keeps_service(run, service) and keeps(traffic_of(gone), out))
            self.assertEqual(gone[begin + beats] - gone[begin], value(out, beats))
        self.assertGreater(told, 80)

    def test_by_hand(self):
        self.assertEqual(goes_out(line(3, 1, 1), late(2, 2, 1)), line(5, 1, 1))
        self.assertEqual(out_run(line(3, 1, 1), late(2, 2, 1), 1), (((0, 4, 5, 6), (0, 0, 0, 6)), 2))
        self.assertEqual(out_run(line(3, 1, 1), late(2, 2, 1), 400)[1], 2)
        self.assertEqual(goes_out(flat(None), unit()), unit())
        self.assertEqual(goes_out(flat(None), flat(None)), unit())
        self.assertIsNone(goes_out(flat(None), line(0, 5, 1)))
        self.assertEqual(goes_out(line(3, 1, 1), flat(None)), line(3, 1, 1))
        self.assertEqual(goes_out(line(3, 1, 1), Curve([9, 0 + 9, None], 1, 0)), line(3, 1, 1))
        self.assertIsNone(goes_out(line(3, 2, 1), late(2, 1, 1)))
        for promise, service in ((flat(None), unit()), (line(3, 2, 1), late(2, 1, 1))):
            self.assertIsNone(out_run(promise, service, 400))

    def test_1_and_400_beats(self):
        run, begin = out_run(flat(7), late(300, 1, 1), 1)
        self.assertEqual((begin, len(run[0]), run[1][-1]), (0, 2, 7))
        run, begin = out_run(line(0, 1, 1), later(line(0, 5, 1), 600), 400)
        self.assertEqual((begin, len(run[0]), run[1][-1]), (600, 1001, 1000))
        self.too_many(1000, out_run, line(0, 1, 1), later(line(0, 5, 1), 601), 400)
        run, begin = out_run(line(0, 1, 1), later(line(0, 5, 1), 999), 1)
        self.assertEqual((begin, len(run[0])), (999, 1001))
        self.too_many(1000, out_run, line(0, 1, 1), later(line(0, 5, 1), 1000), 1)
        self.assertEqual(plain_row([1] * 1000)[-1], 1000)

    def test_refuses(self):
        for thing in NO_CURVES:
            self.refuses(BadCurve, out_run, thing, flat(1), 0, part=None)
            self.refuses(BadCurve, out_run, flat(1), thing, 0, part=None)
        for wrong in NO_NUMBERS + (0, -1, 401):
            self.refuses(BadNumber, out_run, later(line(0, 1, 1), 400), flat(1), wrong, part="beats")


if __name__ == "__main__":
    unittest.main()
