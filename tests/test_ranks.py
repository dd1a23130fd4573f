"""[47], [48]: what is left by rank, and first come first."""

import unittest

from worstwait.bundles import is_first_come
from worstwait.closures import closure
from worstwait.curves import Curve, flat, late, line, rate, value
from worstwait.errors import BadCurve, BadNumber, BadServices
from worstwait.foldings import unit
from worstwait.gates import gate_curve
from worstwait.joined import later, most_of, raised, times
from worstwait.promises import keeps
from worstwait.ranks import left_by_rank, left_first_come
from worstwait.runs import all_together
from worstwait.services import keeps_service
from worstwait.strictly import keeps_strictly
from worstwait.traffics import traffic_of
from tests.plain import INF, NO_NUMBERS, Case, Lots, long_curve, numbers, some_curve
from tests.test_bundles import played_bundle
from tests.test_closures import plain_closure, two_parts
from tests.test_runs import some_bundle

BIG = 10 ** 9


def plain_by_rank(service, above, many):
    """The greatest of what is left, beat by beat; a service's value at beat 0 is taken as 0."""
    gives = [0] + numbers(service, many + 1)[1:many]
    rows = [plain_closure(promise, many) for promise in above]
    told, best = [], 0
    for s in range(many):
        taken = sum(row[s] for row in rows)
        if gives[s] == INF:
            best = INF
        elif taken != INF:
            best = max(best, gives[s] - taken)
        told.append(best)
    return told


def plain_first_come(service, others, beats, many, far=400):
    """The least of what is left from each beat on; what is never less further on, is not looked at."""
    gives = numbers(service, many + far)
    takes = plain_closure(others, many + far)
    told = []
    for t in range(many):
        if t <= beats:
            told.append(0)
            continue
        least = INF
        for u in range(t, many + far):
            if gives[u] != INF:
                taken = takes[u - beats]
                least = min(least, 0 if taken == INF else max(0, gives[u] - taken))
        told.append(least)
    return told


def measure(row):
    """A promise that a row keeps just so: the most letters in so many beats in a row."""
    n = len(row)
    return Curve([max(row[s + d] - row[s] for s in range(n - d)) for d in range(n)], 1, 0)


class ByRank(Case):
    def test_greatest_of_what_is_left(self):
        lots = Lots(361)
        for _ in range(200):
            service = some_curve(lots, 6, 6)
            above = [some_curve(lots, 5, 2) for _ in range(lots.below(4))]
            told = left_by_rank(service, above)
            self.same(told, plain_by_rank(service, above, 150))
            self.assertEqual(left_by_rank(service, tuple(above[::-1])), told)

    def test_steep_services(self):
        lots = Lots(362)
        for _ in range(80):
            service = most_of(some_curve(lots, 6, 9), line(0, 1 + lots.below(5), 1 + lots.below(3)))
            above = [raised(some_curve(lots, 5, 2), lots.below(20)) for _ in range(1 + lots.below(2))]
            self.same(left_by_rank(service, above), plain_by_rank(service, above, 200))

    def test_nones(self):
        going, ending = line(0, 2, 1), Curve([0, 3, 5, None], 1, 0)
        self.assertEqual(left_by_rank(going, [flat(None)]), flat(0))
        self.assertEqual(left_by_rank(going, [unit(), flat(1)]), flat(0))
        self.assertEqual(left_by_rank(ending, []), ending)
        self.assertEqual(left_by_rank(ending, [flat(1)]), Curve([0, 2, 4, None], 1, 0))
        self.assertEqual(left_by_rank(ending, [flat(None)]), Curve([0, 0, 0, None], 1, 0))
        self.assertEqual(left_by_rank(ending, [Curve([5, 9, None], 1, 0)]), Curve([0, 0, 0, None], 1, 0))
        for above in ([], [flat(3)], [flat(None)], [line(1, 1, 1)] * 8):
            self.assertEqual(left_by_rank(flat(None), above), unit())
            self.assertEqual(left_by_rank(Curve([7, None], 1, 0), above), unit())

    def test_beat_0(self):
        self.assertEqual(left_by_rank(flat(5), []), Curve([0, 5], 1, 0))
        self.assertEqual(left_by_rank(flat(5), [flat(9)]), flat(0))
        self.assertEqual(left_by_rank(Curve([5, 5, 9], 1, 4), [flat(6)]), Curve([0, 0, 3], 1, 4))

    def test_none_and_8_above(self):
        service = late(1, 2, 1)
        self.assertEqual(left_by_rank(service, []), service)
        told = left_by_rank(line(0, 9, 1), [line(k, 1, 1) for k in range(8)])
        self.same(told, plain_by_rank(line(0, 9, 1), [line(k, 1, 1) for k in range(8)], 90))

    def test_long_bursts(self):
        # Nothing is left for long, and in the end all the service gives beyond.
        self.same(left_by_rank(line(0, 2, 1), [line(900, 1, 1)]), [max(0, t - 900) for t in range(1200)])
        self.assertEqual(len(left_by_rank(line(0, 2, 1), [line(3999, 1, 1)]).start), 4000)
        self.too_many(4000, left_by_rank, line(0, 2, 1), [line(4000, 1, 1)])
        self.too_many(4000, left_by_rank, line(0, 1, 1), [flat(BIG)])
        self.assertEqual(left_by_rank(line(0, 1, 1), [line(BIG, 1, 1)]), flat(0))
        # What was left once stays left, though the service is the slower one.
        service = Curve([0, 50, 50, 50], 3, 1)
        told = left_by_rank(service, [line(0, 1, 2)])
        self.same(told, plain_by_rank(service, [line(0, 1, 2)], 400))
        self.same(left_by_rank(most_of(service, line(0, 1, 1)), [line(0, 1, 2)]),
                  plain_by_rank(most_of(service, line(0, 1, 1)), [line(0, 1, 2)], 400))

    def test_common_periods(self):
        one, two, three = Curve([0] * 59 + [1], 60, 60), line(1, 1, 59), line(1, 1, 58)
        self.same(left_by_rank(one, [two]), plain_by_rank(one, [two], 3600))
        self.same(left_by_rank(line(0, 1, 1), [two, three]), plain_by_rank(line(0, 1, 1), [two, three], 3600))
        # 60 * 59 * 29 beats: too many of them to be told, unless nothing is left in the end.
        self.too_many(4000, left_by_rank, line(0, 7, 60), [two, three])
        self.assertEqual(left_by_rank(line(0, 1, 60), [two, three]), flat(0))
        eight = [line(1, 1, beats) for beats in (59, 58, 57, 55, 53, 49, 47, 43)]
        self.too_many(4000, left_by_rank, line(0, 1, 1), eight)
        self.assertEqual(left_by_rank(line(0, 1, 10), eight), flat(0))
        service = most_of(Curve([0, 0, 30], 1, 0), line(0, 1, 10))
        self.same(left_by_rank(service, eight), plain_by_rank(service, eight, 600))

    def test_too_many_of_closures(self):
        self.too_many(400, left_by_rank, flat(1), [flat(1), later(line(0, 1, 1), 400)])
        self.too_many(4000, left_by_rank, flat(1), [two_parts(64, 10)])
        self.assertEqual(left_by_rank(long_curve(4000), []), long_curve(4000))
        self.assertEqual(left_by_rank(later(line(0, 1, 1), 3999), [flat(0)]), later(line(0, 1, 1), 3999))

    def test_whatever_the_others_do(self):
        lots = Lots(363)
        strict = 0
        for turn in range(200):
            rule = (("ranks", 3), ("come", 3), ("turns", (1, 2, 1)), ("shares", (2, 1, 1)))[turn % 4]
            bundle, speeds = played_bundle(lots, rule, 3)
            service = gate_curve(tuple(speeds))
            self.assertTrue(keeps_strictly(all_together(bundle), service))
            promises = [measure(came) for came, _ in bundle]
            for flow, run in enumerate(bundle):
                others = promises[:flow] + promises[flow + 1:]
                self.assertTrue(keeps_service(run, left_by_rank(service, others)))
                if rule[0] == "ranks":
                    self.assertTrue(keeps_service(run, left_by_rank(service, promises[:flow])))
            bundle = some_bundle(lots, 3, 8)
            service = some_curve(lots, 4, 3)
            if keeps_strictly(all_together(bundle), service):
                strict += 1
                promises = [measure(came) for came, _ in bundle]
                for flow, run in enumerate(bundle):
                    others = promises[:flow] + promises[flow + 1:]
                    self.assertTrue(keeps_service(run, left_by_rank(service, others)))
        self.assertGreater(strict, 20)


class FirstCome(Case):
    def test_least_of_what_is_left(self):
        lots = Lots(371)
        for _ in range(200):
            service, others, beats = some_curve(lots, 6, 6), some_curve(lots, 5, 3), lots.below(9)
            if service.start[-1] is not None and value(others, 1) is not None:
                up, down = rate(service), rate(closure(others))
                if up[0] * down[1] < down[0] * up[1]:
                    self.assertEqual(left_first_come(service, others, beats), flat(0))
                    continue
            self.same(left_first_come(service, others, beats), plain_first_come(service, others, beats, 80, 120))

    def test_steep_services(self):
        lots = Lots(372)
        for _ in range(60):
            others, beats = raised(some_curve(lots, 5, 2, False), lots.below(20)), lots.below(20)
            service = most_of(some_curve(lots, 6, 9), line(0, 5, 1))
            self.same(left_first_come(service, others, beats), plain_first_come(service, others, beats, 120, 120))

    def test_nones(self):
        going, ending = line(0, 2, 1), Curve([0, 3, 5, None], 1, 0)
        self.assertEqual(left_first_come(going, flat(None), 3), flat(0))
        self.assertEqual(left_first_come(ending, flat(None), 0), Curve([0, 0, 0, None], 1, 0))
        self.assertEqual(left_first_come(ending, flat(None), 7), Curve([0] * 8 + [None], 1, 0))
        self.assertEqual(left_first_come(ending, flat(1), 0), Curve([0, 2, 4, None], 1, 0))
        self.assertEqual(left_first_come(ending, flat(1), 1), Curve([0, 0, 4, None], 1, 0))
        self.assertEqual(left_first_come(flat(None), flat(1), 2), Curve([0, 0, 0, None], 1, 0))
        self.assertEqual(left_first_come(flat(None), unit(), 0), unit())

    def test_0_and_300_beats(self):
        for beats in (0, 300):
            service, others = late(4, 3, 1), line(5, 2, 1)
            self.same(left_first_come(service, others, beats), plain_first_come(service, others, beats, 450, 100))
        self.assertEqual(left_first_come(flat(5), flat(0), 300), Curve([0] * 301 + [5], 1, 0))
        self.assertEqual(left_first_come(flat(5), flat(0), 0), Curve([0, 5], 1, 0))

    def test_long_ones(self):
        self.same(left_first_come(line(0, 2, 1), line(900, 1, 1), 10),
                  [0] * 11 + [max(0, t - 890) for t in range(11, 1200)])
        self.assertEqual(len(left_first_come(line(0, 2, 1), line(3999, 1, 1), 0).start), 4000)
        self.too_many(4000, left_first_come, line(0, 2, 1), line(4000, 1, 1), 0)
        self.assertEqual(left_first_come(line(0, 1, 1), line(BIG, 1, 1), 0), flat(0))
        self.assertEqual(left_first_come(times(line(0, 1, 1), 5), line(0, 5, 1), 3).start, (0, 0, 0, 0, 15))
        one, two = Curve([0] * 59 + [1], 60, 60), line(1, 1, 59)
        self.same(left_first_come(one, two, 5), plain_first_come(one, two, 5, 3600, 300))
        # 60 * 67 is 4020.
        stair = closure(Curve([0] + [1] * 67 + [None], 1, 0))
        self.too_many(4000, left_first_come, line(0, 7, 60), stair, 0)
        self.assertEqual(left_first_come(line(0, 1, 60), times(stair, 7), 0), flat(0))

    def test_too_many_of_closures(self):
        self.too_many(400, left_first_come, flat(1), later(line(0, 1, 1), 400), 0)
        self.too_many(4000, left_first_come, flat(1), two_parts(64, 10), 0)

    def test_bundles_that_are_first_come_first(self):
        lots = Lots(373)
        for _ in range(60):
            bundle, speeds = played_bundle(lots, ("come", 3), 3)
            self.assertTrue(is_first_come(bundle))
            service = gate_curve(tuple(speeds))
            rows = [came for came, _ in bundle]
            for flow, run in enumerate(bundle):
                others = [sum(row[t] for row in rows) - rows[flow][t] for t in range(len(rows[0]))]
                promise = measure(others)
                self.assertTrue(keeps(traffic_of(others), promise))
                for beats in (0, 1, 2, lots.below(12)):
                    self.assertTrue(keeps_service(run, left_first_come(service, promise, beats)))


class Wrong(Case):
    def test_refuses(self):
        for thing in (None, 0, [0, 1], "curve"):
            self.refuses(BadCurve, left_by_rank, thing, None, part=None)
            self.refuses(BadCurve, left_first_come, thing, None, -1, part=None)
            self.refuses(BadCurve, left_first_come, flat(1), thing, -1, part=None)
        for above in (None, 3, flat(1), {}, "a", [None], [flat(1), 0], [flat(1)] * 9, {0: flat(1)}, [[flat(1)]]):
            self.refuses(BadServices, left_by_rank, flat(1), above)
        for wrong in NO_NUMBERS + (-1, 301):
            self.refuses(BadNumber, left_first_come, flat(1), later(flat(1), 400), wrong, part="beats")


if __name__ == "__main__":
    unittest.main()
