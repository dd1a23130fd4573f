"""[42]: services kept strictly."""

import unittest

from worstwait.curves import Curve, flat, line
from worstwait.errors import BadCurve, BadRow, BadRun
from worstwait.foldings import unit
from worstwait.gates import gate_curve
from worstwait.runs import is_run
from worstwait.services import keeps_service
from worstwait.strictly import keeps_strictly, lazy_gone, strict_break
from tests.plain import Case, Lots, numbers, some_curve
from tests.test_gates import some_table
from tests.test_runs import NO_RUNS, some_run
from tests.test_services import some_row
from tests.test_traffics import NO_ROWS


def plain_break(run, service):
    """The least t, and with it the least s, as [42] tells it."""
    came, gone = run
    least = numbers(service, len(came) + 1)
    for t in range(len(came)):
        for s in range(t):
            full = all(came[b] - gone[b] > 0 for b in range(s + 1, t + 1))
            if full and gone[t] - gone[s] < least[t - s]:
                return s, t
    return None


def plain_lazy(came, service):
    """Beat by beat the least number, tried one by one, with which nothing is broken there."""
    gone = [0]
    for t in range(1, len(came)):
        number = gone[-1]
        while number < came[t]:
            found = plain_break((came[:t + 1], gone + [number]), service)
            if found is None or found[1] != t:
                break
            number += 1
        gone.append(number)
    return tuple(gone)


class Strictly(Case):
    def test_breaks(self):
        lots = Lots(331)
        kept = 0
        for _ in range(300):
            run, service = some_run(lots, lots.below(9)), some_curve(lots, 5, 2)
            wanted = plain_break(run, service)
            self.assertEqual(strict_break(run, service), wanted)
            self.assertEqual(strict_break((tuple(run[0]), tuple(run[1])), service), wanted)
            self.assertIs(keeps_strictly(run, service), wanted is None)
            if wanted is None:
                kept += 1
                self.assertTrue(keeps_service(run, service))
        self.assertTrue(30 < kept < 270)

    def test_lazy_gone(self):
        lots = Lots(332)
        for _ in range(200):
            came, service = some_row(lots, lots.below(10)), some_curve(lots, 6, 3)
            told = lazy_gone(came, service)
            self.assertIs(type(told), tuple)
            self.assertEqual(told, plain_lazy(came, service))
            self.assertTrue(is_run((came, told)))
            self.assertIsNone(plain_break((came, told), service))
            self.assertTrue(keeps_strictly((came, told), service))
            self.assertTrue(keeps_service((came, told), service))

    def test_stations_keep_their_gate_curves(self):
        lots = Lots(333)
        for _ in range(40):
            table = some_table(lots)
            came = some_row(lots, 15)
            gone = [0]
            for t in range(1, 16):
                gone.append(min(came[t], gone[-1] + table[t % len(table)]))
            self.assertTrue(keeps_strictly((came, gone), gate_curve(table)))

    def test_edges(self):
        came = [0, 3, 3, 9]
        self.assertEqual(lazy_gone(came, flat(None)), (0, 3, 3, 9))
        self.assertEqual(lazy_gone(came, unit()), (0, 3, 3, 9))
        self.assertEqual(lazy_gone(came, flat(0)), (0, 0, 0, 0))
        self.assertEqual(lazy_gone(came, line(0, 1, 1)), (0, 1, 2, 3))
        self.assertEqual(lazy_gone(came, Curve([0, 0, None], 1, 0)), (0, 0, 3, 3))
        self.assertEqual(lazy_gone([0], flat(None)), (0,))
        self.assertEqual(lazy_gone([0] + [10 ** 30] * 1000, line(0, 2, 1)), tuple(range(0, 2001, 2)))
        self.assertEqual(strict_break(([0, 1], [0, 0]), flat(None)), (0, 1))
        self.assertIsNone(strict_break(([0, 1], [0, 1]), flat(None)))
        # The value at beat 0 counts nowhere.
        self.assertIsNone(strict_break(([0, 1], [0, 0]), Curve([0, 0, 5], 1, 0)))
        self.assertEqual(strict_break(([0, 2, 2], [0, 1, 1]), Curve([0, 0, 2], 1, 0)), (0, 2))
        self.assertIsNone(strict_break(([0] * 1001, [0] * 1001), flat(None)))
        # Kept, but not strictly: what was given too much ahead counts once.
        run = ([0, 4, 4, 4], [0, 3, 3, 3])
        self.assertTrue(keeps_service(run, line(0, 1, 1)))
        self.assertEqual(strict_break(run, line(0, 1, 1)), (1, 2))


class Wrong(Case):
    def test_refuses(self):
        for call in (keeps_strictly, strict_break):
            for thing in NO_RUNS:
                self.refuses(BadRun, call, thing, None)
            for thing in (None, 0, [0, 1], "service"):
                self.refuses(BadCurve, call, ([0], [0]), thing, part=None)
        for thing in NO_ROWS:
            self.refuses(BadRow, lazy_gone, thing, None)
        for thing in (None, 0, [0, 1], "service"):
            self.refuses(BadCurve, lazy_gone, [0], thing, part=None)


if __name__ == "__main__":
    unittest.main()
