"""[40]: runs and bundles."""

import unittest

from worstwait.errors import BadBundle, BadRun
from worstwait.runs import all_together, is_bundle, is_run, run_heaps, run_waits
from tests.plain import Case, Lots
from tests.test_promises import plain_row
from tests.test_traffics import NO_ROWS

NO_RUNS = (None, 3, "run", [], (), ([0], [0], [0]), ([0],), [[0], [0]], ([0, 1], [0]), ([0], [0, 0]),
           ([0, 1], [0, 2]), ([0, 1, 1], [0, 0, 2]), {0: [0], 1: [0]}) + tuple(
    [(row, [0]) for row in NO_ROWS] + [([0], row) for row in NO_ROWS])
RUN = ([0, 2, 2], [0, 1, 2])
NO_BUNDLES = (None, 3, (), [], [RUN], (RUN, RUN[0]), (RUN,) * 9, (RUN, ([0], [0])), ([0, 1], [0, 1]), RUN,
              (RUN, None), (list(RUN),), {0: RUN}) + tuple((RUN, thing) for thing in NO_RUNS[:13])


def some_run(lots, beats, most=3):
    came = plain_row([lots.of([0, lots.below(most + 1)]) for _ in range(beats)])
    gone = [0]
    for beat in range(1, beats + 1):
        left = came[beat] - gone[-1]
        gone.append(gone[-1] + lots.of([0, left, lots.below(left + 1)]))
    return came, gone


def some_bundle(lots, most=4, longest=8):
    beats = lots.below(longest + 1)
    return tuple(some_run(lots, beats) for _ in range(1 + lots.below(most)))


class Runs(Case):
    def test_is_run(self):
        for thing in (([0], [0]), ((0,), [0]), RUN, ([0, 5], (0, 0)), ([0] * 1001, [0] * 1001),
                      ([0, 10 ** 30], [0, 10 ** 30])):
            self.assertIs(is_run(thing), True)
        for thing in NO_RUNS:
            self.assertIs(is_run(thing), False)

    def test_heaps_and_waits(self):
        lots = Lots(311)
        nones = 0
        for _ in range(150):
            came, gone = some_run(lots, lots.below(10))
            n = len(came)
            told = run_heaps((came, gone))
            self.assertIs(type(told), list)
            self.assertEqual(told, [came[t] - gone[t] for t in range(n)])
            waits = [next((d for d in range(n - t) if gone[t + d] >= came[t]), None) for t in range(n)]
            for run in ((came, gone), (tuple(came), tuple(gone))):
                self.assertEqual(run_waits(run), waits)
            self.assertIs(type(run_waits((came, gone))), list)
            nones += None in waits
        self.assertTrue(20 < nones < 130)

    def test_edges(self):
        self.assertEqual(run_heaps(([0], [0])), [0])
        self.assertEqual(run_waits(([0], [0])), [0])
        self.assertEqual(run_waits(([0] + [7] * 1000, [0] * 1000 + [7])), [0] + list(range(999, -1, -1)))
        self.assertEqual(run_waits(([0] + [7] * 1000, [0] * 1000 + [6])), [0] + [None] * 1000)

    def test_refuses(self):
        for thing in NO_RUNS:
            self.refuses(BadRun, run_heaps, thing)
            self.refuses(BadRun, run_waits, thing)


class Bundles(Case):
    def test_is_bundle(self):
        for thing in ((RUN,), (RUN,) * 8, (RUN, ((0, 5, 5), (0, 0, 5)))):
            self.assertIs(is_bundle(thing), True)
        for thing in NO_BUNDLES:
            self.assertIs(is_bundle(thing), False)

    def test_all_together(self):
        lots = Lots(312)
        for _ in range(60):
            bundle = some_bundle(lots, 8)
            told = all_together(bundle)
            n = len(bundle[0][0])
            self.assertEqual(told, tuple(tuple(sum(run[k][t] for run in bundle) for t in range(n)) for k in (0, 1)))
            self.assertTrue(is_run(told))
            self.assertTrue(type(told) is tuple and type(told[0]) is tuple and type(told[1]) is tuple)
        self.assertEqual(all_together((([0], [0]),) * 8), ((0,), (0,)))

    def test_refuses(self):
        for thing in NO_BUNDLES:
            self.refuses(BadBundle, all_together, thing)


if __name__ == "__main__":
    unittest.main()
