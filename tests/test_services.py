"""[41]: services."""

import unittest

from worstwait.curves import Curve, flat, late, line
from worstwait.errors import BadCurve, BadRow, BadRun
from worstwait.foldings import unit
from worstwait.joined import later
from worstwait.runs import is_run
from worstwait.services import keeps_service, least_gone, service_break
from tests.plain import Case, Lots, long_curve, numbers, some_curve
from tests.test_promises import plain_row
from tests.test_runs import NO_RUNS, some_run
from tests.test_traffics import NO_ROWS


def plain_least(came, service):
    """The least number at each beat, as [41] tells it."""
    most = numbers(service, len(came) + 1)
    most[0] = 0
    return tuple(min(came[s] + most[t - s] for s in range(t + 1)) for t in range(len(came)))


def some_row(lots, beats, most=4):
    return plain_row([lots.of([0, lots.below(most + 1)]) for _ in range(beats)])


class Services(Case):
    def test_least_gone(self):
        lots = Lots(321)
        for _ in range(200):
            came, service = some_row(lots, lots.below(12)), some_curve(lots)
            told = least_gone(came, service)
            self.assertIs(type(told), tuple)
            self.assertEqual(told, plain_least(came, service))
            self.assertEqual(least_gone(tuple(came), service), told)
            self.assertTrue(is_run((came, told)))
            self.assertTrue(keeps_service((came, told), service))

    def test_breaks(self):
        lots = Lots(322)
        kept = 0
        for _ in range(300):
            run, service = some_run(lots, lots.below(9)), some_curve(lots, 5, 2)
            least = plain_least(run[0], service)
            breaks = [t for t, (gone, most) in enumerate(zip(run[1], least)) if gone < most]
            self.assertEqual(service_break(run, service), breaks[0] if breaks else None)
            self.assertIs(keeps_service(run, service), not breaks)
            kept += not breaks
        self.assertTrue(50 < kept < 250)

    def test_exactly_if(self):
        lots = Lots(323)
        for _ in range(100):
            came, gone = some_run(lots, lots.below(9))
            service = some_curve(lots, 5, 2)
            least = least_gone(came, service)
            self.assertIs(keeps_service((came, gone), service), all(one >= two for one, two in zip(gone, least)))

    def test_edges(self):
        came = [0, 3, 3, 9]
        # The value at beat 0 is taken as 0.
        for service, least in ((flat(0), (0, 0, 0, 0)), (flat(5), (0, 0, 3, 5)), (flat(None), (0, 0, 3, 3)),
                               (unit(), (0, 0, 3, 3)), (line(0, 1, 1), (0, 0, 1, 2)), (late(1, 2, 1), (0, 0, 0, 2)),
                               (Curve([9, 9, None], 1, 0), (0, 0, 3, 9))):
            wanted = plain_least(came, service)
            self.assertEqual(least_gone(came, service), wanted)
        self.assertEqual(least_gone(came, flat(None)), (0, 3, 3, 9))
        self.assertEqual(least_gone(came, flat(0)), (0, 0, 0, 0))
        self.assertEqual(least_gone(came, flat(5)), (0, 3, 3, 5))
        self.assertEqual(least_gone([0], flat(3)), (0,))
        self.assertEqual(least_gone([0] + [10 ** 30] * 1000, line(0, 1, 1)), tuple(range(1001)))
        self.assertEqual(least_gone(list(range(1001)), later(flat(None), 9))[500], 500 - 8)
        self.assertEqual(service_break(([0, 1], [0, 0]), flat(1)), 1)
        self.assertIsNone(service_break(([0], [0]), flat(None)))
        self.assertIsNone(service_break(([0] * 1001, [0] * 1001), long_curve(4000)))


class Wrong(Case):
    def test_refuses(self):
        for call in (keeps_service, service_break):
            for thing in NO_RUNS:
                self.refuses(BadRun, call, thing, None)
            for thing in (None, 0, [0, 1], "service"):
                self.refuses(BadCurve, call, ([0], [0]), thing, part=None)
        for thing in NO_ROWS:
            self.refuses(BadRow, least_gone, thing, None)
        for thing in (None, 0, [0, 1], "service"):
            self.refuses(BadCurve, least_gone, [0], thing, part=None)


if __name__ == "__main__":
    unittest.main()
