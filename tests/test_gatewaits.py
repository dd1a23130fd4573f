"""[73]: waits and heaps at lines of gates."""

import unittest

from worstwait.closures import closure
from worstwait.curves import Curve, flat, line, value
from worstwait.errors import BadCurve, BadGates
from worstwait.foldings import unit
from worstwait.gatelines import line_curve
from worstwait.gatewaits import gates_heap, gates_wait
from worstwait.joined import later, times
from worstwait.promises import keeps
from worstwait.traffics import is_row, traffic_of
from tests.plain import INF, Case, Lots, numbers, some_curve
from tests.test_closures import plain_closure, two_parts
from tests.test_gatelines import NO_GATES, plain_round, plain_run, some_gates

BIG = 10 ** 9


def all_waits(gates, phase, row, extra=400):
    """For each beat of a row how long what came below it takes to go out of the last gate."""
    traffic = [two - one for one, two in zip(row, row[1:])] + [0] * extra
    out = plain_run(gates, phase, traffic)[-1]
    told = []
    for beat, came in enumerate(row):
        end = beat
        while end < len(out) and out[end] < came:
            end += 1
        told.append(end - beat if end < len(out) else INF)
    return told


def all_heaps(gates, phase, row):
    """How many letters are in the line at each beat of a row."""
    traffic = [two - one for one, two in zip(row, row[1:])]
    return [came - gone for came, gone in zip(row, plain_run(gates, phase, traffic)[-1])]


def coming_row(lots, promise, beats=14):
    """A row the traffic of which keeps the promise."""
    came, most = [0], numbers(promise, beats + 1)
    for t in range(1, beats + 1):
        room = min(most[t - s] + came[s] for s in range(t)) - came[-1]
        room = 5 if room == INF else room
        came.append(came[-1] + lots.of([0, room, lots.below(room + 1)]))
    return came


class Gates(Case):
    def test_never_passed_and_come_to(self):
        lots = Lots(561)
        seen = {}
        for _ in range(250):
            gates, promise = some_gates(lots, 3), some_curve(lots, 5, 3)
            wait, heap = gates_wait(gates, promise), gates_heap(tuple(gates), promise)
            kind = wait is None, heap is None
            seen[kind] = seen.get(kind, 0) + 1
            row = coming_row(lots, promise)
            for phase in range(plain_round(gates)):
                if wait is not None:
                    self.assertLessEqual(max(all_waits(gates, phase, row)), wait[0])
                if heap is not None:
                    self.assertLessEqual(max(all_heaps(gates, phase, row)), heap[0])
            if wait is not None:
                self.shows(wait, gates, promise)
                self.assertEqual(max(all_waits(gates, wait[1], wait[2])), wait[0])
            if heap is not None:
                self.shows(heap, gates, promise)
                self.assertEqual(max(all_heaps(gates, heap[1], heap[2])), heap[0])
        self.assertEqual(len(seen), 3)

    def shows(self, told, gates, promise):
        number, phase, row = told
        self.assertTrue(type(told) is tuple and type(number) is int and type(phase) is int)
        self.assertTrue(0 <= phase < plain_round(gates))
        self.assertTrue(is_row(row) and keeps(traffic_of(row), promise))

    def test_without_end(self):
        lots = Lots(562)
        seen = {True: 0, False: 0}
        for _ in range(100):
            gates, promise = some_gates(lots, 3), some_curve(lots, 4, 3)
            most = plain_closure(promise, 200)
            most = [10 ** 6 * (t > 0) for t in range(200)] if most[1] == INF else most
            waits = [all_waits(gates, phase, most, 600) for phase in range(plain_round(gates))]
            without = any(max(row) > max(row[:100]) for row in waits) or max(map(max, waits)) > 500
            self.assertIs(gates_wait(gates, promise) is None, without)
            seen[without] += 1
        self.assertGreater(min(seen.values()), 20)

    def test_by_hand(self):
        # Two letters of one beat, with a gate for one each other beat.
        wait, phase, row = gates_wait([(1, 0)], flat(2))
        self.assertEqual((wait, phase, row), (3, 1, (0, 2)))
        self.assertEqual(gates_heap([(1, 0)], flat(2)), (2, 1, (0, 2)))
        self.assertEqual(gates_wait([(1, 0), (0, 1)], flat(2))[0], 4)
        self.assertEqual(gates_wait([(5,)] * 6, flat(5))[0], 0)
        self.assertEqual(gates_heap([(5,)] * 6, flat(6))[0], 1)
        for table in ((0,), (0, 0, 0)):
            self.assertIsNone(gates_wait([(1,), table], flat(1)))
            self.assertEqual(gates_heap([(1,), table], flat(3))[0], 3)
            self.assertEqual(gates_wait([(1,), table], flat(0))[0], 0)
        self.assertIsNone(gates_heap([(BIG,)], flat(None)))
        self.assertIsNone(gates_wait([(BIG,)], unit()))
        self.assertIsNone(gates_wait([(2, 0)], line(1, 3, 2)))
        self.assertEqual(gates_wait([(2, 0)], line(1, 1, 1))[0], 2)

    def test_rows_of_1001_numbers(self):
        # Each part beats part letters come, each table beats as many go out: the longest wait is at the least
        # beat that is 1 behind whole parts, and part - 1 ahead of 1 behind whole tables.
        for part, many, beat in ((27, 41, 1000), (200, 11, 1001)):
            promise, table = Curve([0] + [part] * part + [None], 1, 0), (0,) * (many - 1) + (many,)
            if beat > 1000:
                self.too_many(1000, gates_wait, [table], promise)
                continue
            wait, phase, row = gates_wait([table], promise)
            self.assertEqual((wait, len(row)), (part + many - 2, beat + 1))
            self.assertEqual(max(all_waits([table], phase, row)), wait)
            self.assertEqual(max(all_waits([table], phase, row)[:-1]), wait - 1)
        for part, many, beat in ((111, 11, 1000), (91, 17, 1002)):
            promise, table = Curve([0] + [part] * part + [None], 1, 0), (0,) * (many - 1) + (many,)
            if beat > 1000:
                self.too_many(1000, gates_heap, [table], promise)
                continue
            heap, phase, row = gates_heap([table], promise)
            self.assertEqual((heap, len(row)), (part + many - 2, beat + 1))
            self.assertEqual(all_heaps([table], phase, row)[-1], heap)

    def test_great_waits(self):
        wait, phase, row = gates_wait([(0,) * 59 + (1,)], flat(BIG))
        self.assertEqual((wait, phase, row), (60 * BIG - 1, 0, (0, BIG)))
        self.assertEqual(gates_heap([(0,) * 59 + (1,)], flat(BIG)), (BIG, 0, (0, BIG)))
        wait, phase, row = gates_wait([(0,) * 15 + (1,), (0,) * 24 + (1,)], flat(3))
        self.assertEqual(max(all_waits([(0,) * 15 + (1,), (0,) * 24 + (1,)], phase, row)), wait)

    def test_rounds(self):
        sixteen, many = (0,) * 15 + (1,), (0,) * 24 + (1,)
        self.assertIsNotNone(gates_wait([sixteen, many], flat(1)))
        for call in (gates_wait, gates_heap):
            self.too_many(400, call, [(1,) * 60, (1,) * 7], flat(1))
            self.too_many(400, call, [(1,) * 8, (1,) * 51], flat(1))
            call([(1,) * 57, (1,) * 7], flat(1))
            self.too_many(400, call, [(1,)], later(line(1, 1, 1), 400))
            self.too_many(4000, call, [(1,)], two_parts(64, 10))

    def test_unlike_periods(self):
        promise = closure(Curve([0] + [1] * 67 + [None], 1, 0))
        table = (0,) * 59 + (1,)
        wait, phase, row = gates_wait([table], promise)
        self.assertEqual(max(all_waits([table], phase, row)), wait)
        self.assertEqual(value(line_curve([table]), 60), 1)

    def test_refuses(self):
        for call in (gates_wait, gates_heap):
            for thing in (None, 0, [0, 1], "curve"):
                self.refuses(BadCurve, call, None, thing, part=None)
            for thing in NO_GATES:
                self.refuses(BadGates, call, thing, later(line(1, 1, 1), 400))


if __name__ == "__main__":
    unittest.main()
