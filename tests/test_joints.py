"""[35]: promises joined."""

import unittest
from itertools import permutations

from worstwait.closures import closure, is_closed
from worstwait.curves import Curve, flat, line
from worstwait.errors import BadCurve
from worstwait.foldings import folding
from worstwait.inverses import reach
from worstwait.joined import later
from worstwait.joints import either, joint
from tests.plain import Case, Lots, numbers, some_curve
from tests.test_closures import plain_closure, two_parts


def breaks(traffic, promise):
    """Whether the traffic does not keep the promise, as [31] tells it."""
    row = [sum(traffic[:beat]) for beat in range(len(traffic) + 1)]
    most = numbers(promise, len(row))
    return any(row[t] - row[s] > most[t - s] for t in range(len(row)) for s in range(t))


class Joints(Case):
    def test_least_sums_and_greatest_closures(self):
        lots = Lots(81)
        for _ in range(100):
            promises = [some_curve(lots) for _ in range(1 + lots.below(3))]
            rows = [numbers(promise, 80) for promise in promises]
            told = [0]
            least = [min(row[beat] for row in rows) for beat in range(80)]
            for beat in range(1, 80):
                told.append(min(least[part] + told[beat - part] for part in range(1, beat + 1)))
            self.same(joint(promises), told)
            closures = [plain_closure(promise, 80) for promise in promises]
            self.same(either(promises), [max(row[beat] for row in closures) for beat in range(80)])

    def test_laws(self):
        lots = Lots(82)
        for _ in range(60):
            promises = tuple(some_curve(lots) for _ in range(3))
            told = joint(promises)
            for order in permutations([closure(promise) for promise in promises]):
                self.assertEqual(folding(folding(order[0], order[1]), order[2]), told)
            self.assertTrue(is_closed(told) and is_closed(either(promises)))
            one, two = promises[:2]
            rows = list(zip(plain_closure(one, 150), numbers(two, 150)))
            inside = all(x <= y for x, y in rows[1:])
            self.assertEqual(joint((one, two)) == closure(one), inside)
            self.assertEqual(either((one, two)) == closure(two), inside)

    def test_just_those_traffics(self):
        lots = Lots(83)
        for _ in range(150):
            promises = [some_curve(lots, 4, 2) for _ in range(2)]
            traffic = [lots.below(3) for _ in range(1 + lots.below(5))]
            broken = [breaks(traffic, promise) for promise in promises]
            self.assertEqual(breaks(traffic, joint(promises)), any(broken))
            if not all(broken):
                self.assertFalse(breaks(traffic, either(promises)))

    def test_one_and_eight(self):
        one = Curve([1, 3, 4, 9], 1, 5)
        self.assertEqual(joint([one]), closure(one))
        self.assertEqual(either((one,)), closure(one))
        self.assertEqual(joint([one] * 8), closure(one))
        self.assertEqual(either([one] * 8), closure(one))

    def test_too_many(self):
        one, two = reach(Curve([0], 1, 125)), line(0, 1, 33)
        self.too_many(4000, joint, [one, two])
        self.too_many(4000, joint, [one, two, later(flat(1), 500)])
        self.too_many(400, either, [later(flat(1), 500), two_parts(64, 10)])
        self.too_many(4000, either, [two_parts(64, 10), later(flat(1), 500)])
        self.too_many(400, joint, [flat(9), later(flat(1), 500)])
        self.assertEqual(joint([flat(0), later(flat(1), 500)]), flat(0))
        self.too_many(4000, joint, [flat(5000), line(0, 1, 1)])
        self.too_many(4000, either, [Curve([0, 5000], 1, 0), line(0, 1, 1)])

    def test_refuses(self):
        for call in (joint, either):
            for thing in (None, flat(0), [], (), [flat(0)] * 9, [flat(0), None], ["curve"], [[0]], {}, 3,
                          {0: flat(0)}, [flat(0), 0]):
                self.refuses(BadCurve, call, thing, part="promises")


if __name__ == "__main__":
    unittest.main()
