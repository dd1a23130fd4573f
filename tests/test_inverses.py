"""[24], [28]: inverses."""

import unittest

from worstwait.curves import Curve, flat, line, value, values
from worstwait.errors import BadCurve
from worstwait.foldings import folding, unit
from worstwait.inverses import passed, reach
from worstwait.joined import later, raised
from tests.plain import INF, Case, Lots, numbers, some_curve

BIG = 10 ** 9


def plain_reach(curve, more, many, beats=600):
    """The least beat with a value of at least the number and more, by looking at all."""
    row = numbers(curve, beats)
    told = []
    for number in range(many):
        found = [beat for beat, one in enumerate(row) if one >= number + more]
        told.append(found[0] if found else INF)
    return told


class Inverses(Case):
    def test_least_beats(self):
        lots = Lots(51)
        for _ in range(300):
            curve = some_curve(lots, 9, 5)
            many = 60 if curve.growth or None in curve.start else 100
            self.same(reach(curve), plain_reach(curve, 0, many))
            self.same(passed(curve), plain_reach(curve, 1, many))

    def test_there_and_back(self):
        lots = Lots(52)
        for _ in range(200):
            curve = some_curve(lots, 9, 6)
            self.assertEqual(passed(reach(curve)), raised(curve, 1))
            self.assertEqual(reach(passed(curve)), later(curve, 1))

    def test_crosswise(self):
        lots = Lots(53)
        for _ in range(80):
            one, two = some_curve(lots), some_curve(lots)
            x, y = numbers(passed(one), 20), numbers(passed(two), 20)
            told = numbers(passed(folding(one, two)), 20)
            for n in range(20):
                if numbers(one, 1)[0] + numbers(two, 1)[0] > n:
                    self.assertEqual(told[n], 0)
                    continue
                ways = [x[a] + y[n - a] - 1 for a in range(n + 1) if x[a] >= 1 and y[n - a] >= 1]
                self.assertEqual(told[n], max(ways))

    def test_by_hand(self):
        one = line(3, 1, 1)
        self.assertEqual(values(reach(one), 7), [0, 1, 1, 1, 1, 2, 3])
        self.assertEqual(values(passed(one), 6), [1, 1, 1, 1, 2, 3])
        self.assertEqual(reach(flat(None)), flat(0))
        self.assertEqual(passed(flat(None)), flat(0))
        self.assertEqual(passed(flat(0)), flat(None))
        self.assertEqual(reach(flat(0)), unit())
        self.assertEqual(reach(unit()), Curve([0, 1], 1, 0))
        self.assertEqual(passed(unit()), flat(1))

    def test_limits(self):
        self.assertEqual(len(reach(flat(3998)).start), 4000)
        self.too_many(4000, reach, flat(3999))
        self.assertEqual(len(passed(flat(3999)).start), 4000)
        self.too_many(4000, passed, flat(4000))
        self.too_many(4000, reach, flat(BIG))
        self.assertEqual(reach(Curve([0], 1, 4000)).period, 4000)
        self.too_many(4000, reach, Curve([0], 1, 4001))
        self.assertEqual(passed(Curve([0], 1, 4000)).period, 4000)
        self.too_many(4000, passed, Curve([0], 1, 4001))
        self.too_many(4000, reach, Curve([0], 1, BIG))
        self.assertEqual(len(reach(Curve([3998, None], 1, 0)).start), 4000)
        self.too_many(4000, reach, Curve([3999, None], 1, 0))
        self.assertEqual(len(passed(Curve([3999, None], 1, 0)).start), 4000)
        self.too_many(4000, passed, Curve([4000, None], 1, 0))
        # The growth of the start counts, not that of the beats.
        self.assertEqual(len(reach(later(line(0, 1, 1), 3999)).start), 2)
        self.assertEqual(value(reach(later(line(0, 1, 60), 3000)), 10 ** 9), 3000 + 60 * 10 ** 9)
        self.assertEqual(len(reach(Curve([0, 3999], 1, 1)).start), 4000)
        self.too_many(4000, reach, Curve([0, 4000], 1, 1))
        self.assertEqual(len(passed(Curve([0, 4000], 1, 1)).start), 4000)
        self.too_many(4000, passed, Curve([0, 4001], 1, 1))

    def test_refuses(self):
        for thing in (None, 0, [0, 1], "curve"):
            self.refuses(BadCurve, reach, thing, part=None)
            self.refuses(BadCurve, passed, thing, part=None)


if __name__ == "__main__":
    unittest.main()
