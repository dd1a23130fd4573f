"""[49]: what is left by turns and by shares."""

import unittest

from worstwait.curves import Curve, flat, late, line
from worstwait.errors import BadCurve, BadNumber
from worstwait.foldings import unit
from worstwait.gates import gate_curve
from worstwait.joined import is_below, later, raised, times
from worstwait.runs import all_together
from worstwait.sharing import left_by_shares, left_by_turns
from worstwait.strictly import keeps_strictly
from tests.plain import INF, NO_NUMBERS, Case, Lots, long_curve, numbers, some_curve
from tests.test_bundles import plain_by_shares, plain_by_turns, played_bundle
from tests.test_runs import some_bundle

BIG = 10 ** 9


def turns_of(x, quanta, flow):
    whole, q = sum(quanta), quanta[flow]
    return (x // whole) * q + max(0, x % whole - (whole - q))


def shares_of(x, shares, flow):
    """The least y with which x is not too great, tried one by one from near on."""
    w = shares[flow]
    y = max(0, x * w // sum(shares) - 2 * sum(shares))
    assert y == 0 or x > y - 1 + sum(v * y // w + 1 for k, v in enumerate(shares) if k != flow)
    while x > y + sum(v * (y + 1) // w + 1 for k, v in enumerate(shares) if k != flow):
        y += 1
    return y


def plain(call, service, parts, flow, many):
    return [0] + [INF if x == INF else call(x, parts, flow) for x in numbers(service, many)[1:]]


def some_parts(lots, most=4, greatest=6):
    return [1 + lots.below(greatest) for _ in range(1 + lots.below(most))]


class Left(Case):
    def test_beat_by_beat(self):
        lots = Lots(381)
        for _ in range(200):
            service, parts = some_curve(lots, 6, 9), some_parts(lots)
            flow = lots.below(len(parts))
            self.same(left_by_turns(service, parts, flow), plain(turns_of, service, parts, flow, 200))
            self.same(left_by_shares(service, tuple(parts), flow), plain(shares_of, service, parts, flow, 200))

    def test_greatest_parts(self):
        lots = Lots(382)
        for _ in range(30):
            parts = [lots.of([1, 59, 60, 1 + lots.below(60)]) for _ in range(1 + lots.below(8))]
            flow = lots.below(len(parts))
            service = times(some_curve(lots, 3, 5), 1 + lots.below(300))
            for left, call in ((left_by_turns, turns_of), (left_by_shares, shares_of)):
                self.same(left(service, parts, flow), plain(call, service, parts, flow, 600))

    def test_edges(self):
        for call in (left_by_turns, left_by_shares):
            self.assertEqual(call(flat(None), [1, 1], 0), unit())
            self.assertEqual(call(unit(), [1, 1], 1), unit())
            self.assertEqual(call(Curve([9, None], 1, 0), [1], 0), unit())
            self.assertEqual(call(flat(0), [3, 60], 0), flat(0))
            # Alone a flow has all; at beat 0 it has 0.
            self.assertEqual(call(raised(late(2, 3, 1), 4), [7], 0), Curve([0, 4, 4], 1, 3))
            self.assertEqual(call(long_curve(4000), [5], 0), long_curve(4000))
        self.assertEqual(left_by_turns(line(0, 3, 1), [1, 2], 0), line(0, 1, 1))
        self.assertEqual(left_by_turns(line(0, 3, 1), [1, 2], 1), line(0, 2, 1))
        self.assertEqual(left_by_turns(line(0, 1, 1), [2, 3], 0), Curve([0, 0, 0, 0, 1], 5, 2))
        self.assertEqual(left_by_turns(Curve([5, 5, None], 1, 0), [2, 3], 0), Curve([0, 2, None], 1, 0))
        self.assertEqual(left_by_turns(line(0, BIG, 1), [60] * 8, 7).start[0], 0)
        # One letter, of two flows of one share: y + (y + 1) + 1 is 2 for none of this flow's.
        self.assertEqual(left_by_shares(line(0, 1, 1), [1, 1], 0), Curve([0, 0, 0], 2, 1))
        self.assertEqual(left_by_shares(line(0, 1, 1), [1] * 8, 3).start[:16], (0,) * 15)

    def test_few_letters_at_first(self):
        # Up to one letter of each other flow none of this one's has to leave.
        service = line(0, 1, 7)
        for parts in ([1] * 8, [60] * 8, [60] + [1] * 7, [1] + [60] * 7, [3, 7, 2]):
            for flow in range(len(parts)):
                self.same(left_by_shares(service, parts, flow), plain(shares_of, service, parts, flow, 3700))
        steep = Curve([0, 0, 1], 1, 5)
        self.same(left_by_shares(steep, [2, 3, 5], 1), plain(shares_of, steep, [2, 3, 5], 1, 200))

    def test_long_ones(self):
        # 60 beats and 67 letters a turn: 4020 beats till all begins again.
        self.too_many(4000, left_by_turns, line(0, 1, 60), [60, 7], 0)
        told = left_by_turns(line(0, 1, 60), [60, 6], 1)
        self.assertEqual(told.period, 3960)
        self.same(told, plain(turns_of, line(0, 1, 60), [60, 6], 1, 8000))
        self.too_many(4000, left_by_shares, line(0, 1, 60), [60, 7], 0)
        # The period is not told by that alone: half of what leaves is one of two's.
        self.same(left_by_turns(times(line(0, 1, 60), 67), [60, 7], 0),
                  plain(turns_of, times(line(0, 1, 60), 67), [60, 7], 0, 500))
        self.too_many(4000, left_by_turns, later(line(0, 1, 1), 3999), [1, 1], 0)
        self.assertEqual(len(left_by_turns(later(line(0, 1, 1), 3998), [1, 1], 0).start), 4000)
        self.assertEqual(left_by_turns(later(flat(7), 3999), [1, 1], 0), later(flat(3), 3999))


class Hearts(Case):
    def test_flows_keep_what_is_left_strictly(self):
        lots = Lots(383)
        for _ in range(60):
            parts = tuple(1 + lots.below(4) for _ in range(3))
            for rule, left in (("turns", left_by_turns), ("shares", left_by_shares)):
                bundle, speeds = played_bundle(lots, (rule, parts), 3)
                service = gate_curve(tuple(speeds))
                for flow, run in enumerate(bundle):
                    self.assertTrue(keeps_strictly(run, left(service, parts, flow)))

    def test_all_bundles(self):
        lots = Lots(384)
        seen = 0
        for _ in range(500):
            bundle, service = some_bundle(lots, 3, 6), some_curve(lots, 4, 3)
            if not keeps_strictly(all_together(bundle), service):
                continue
            parts = [1 + lots.below(4) for _ in bundle]
            for judged, left in ((plain_by_turns, left_by_turns), (plain_by_shares, left_by_shares)):
                if judged(bundle, parts):
                    seen += len(bundle) > 1
                    for flow, run in enumerate(bundle):
                        self.assertTrue(keeps_strictly(run, left(service, parts, flow)))
        self.assertGreater(seen, 20)

    def test_never_more_than_the_service(self):
        lots = Lots(385)
        for _ in range(40):
            service, parts = some_curve(lots, 5, 5), some_parts(lots)
            self.assertTrue(is_below(left_by_turns(service, parts, 0), service))
            self.assertTrue(is_below(left_by_shares(service, parts, 0), service))


class Wrong(Case):
    def test_refuses(self):
        for call, word in ((left_by_turns, "quanta"), (left_by_shares, "shares")):
            for thing in (None, 0, [0, 1], "curve"):
                self.refuses(BadCurve, call, thing, None, -1, part=None)
            for parts in (None, 3, [], (), [1] * 9, [0], [61], [True], [1, False], [1.0], ["1"], [None], "1", {1: 1}):
                self.refuses(BadNumber, call, flat(1), parts, -1, part=word)
            for wrong in NO_NUMBERS + (-1, 2):
                self.refuses(BadNumber, call, flat(1), [1, 60], wrong, part="flow")


if __name__ == "__main__":
    unittest.main()
