"""[23]: closures of few parts."""

import unittest

from worstwait.closures import closure
from worstwait.curves import Curve, flat, line
from worstwait.errors import BadCurve, BadNumber, TooMany
from worstwait.fewparts import most_parts, within
from worstwait.foldings import unit
from worstwait.inverses import reach
from worstwait.joined import later, raised
from tests.plain import INF, NO_NUMBERS, Case, Lots, numbers, some_curve
from tests.test_closures import two_parts

BIG = 10 ** 9


def plain_within(curve, number, many):
    """The least sums of at most so many parts."""
    row = numbers(curve, many)
    told = [0] + [INF] * (many - 1)
    for _ in range(number):
        told = [min([told[t]] + [row[p] + told[t - p] for p in range(1, t + 1)]) for t in range(many)]
    return told


class Within(Case):
    def test_least_sums(self):
        lots = Lots(41)
        for _ in range(60):
            curve = some_curve(lots)
            for number in (0, 1, 2, 3, 5):
                self.same(within(curve, number), plain_within(curve, number, 60))
            self.same(within(curve, 20), plain_within(curve, 20, 30))

    def test_edges(self):
        self.assertEqual(within(flat(3), 0), unit())
        self.assertEqual(within(flat(3), 1), Curve([0, 3], 1, 0))
        self.assertEqual(within(flat(None), 7), unit())
        self.assertEqual(within(Curve([5, 2 + 3, 6], 1, 1), 1), Curve([0, 5], 1, 1))

    def test_limits(self):
        one = Curve([0] * 399 + [None], 1, 0)
        self.assertEqual(len(within(one, 10).start), 3982)
        self.too_many(4000, within, one, 11)
        self.too_many(4000, within, one, 20)
        self.assertEqual(len(within(later(unit(), 1999), 2).start), 4000)
        self.assertEqual(len(within(later(unit(), 1332), 3).start), 3998)
        self.too_many(4000, within, later(unit(), 1333), 3)
        # No closure is told of a start of more than 400 values, but these are.
        self.assertEqual(len(within(later(line(1, 1, 1), 450), 1).start), 452)
        # With 0 at beat 0 a start may become longer by one value.
        curve = later(flat(1), 3999)
        self.assertEqual(within(curve, 1), curve)
        curve = raised(reach(Curve([0], 1, 4000)), 1)
        self.assertEqual(len(curve.start), 4000)
        self.too_many(4000, within, curve, 1)
        self.assertEqual(within(curve, 0), unit())


class MostParts(Case):
    def test_exactly_if(self):
        lots = Lots(42)
        seen = {True: 0, False: 0}
        for _ in range(250):
            curve = some_curve(lots)
            row = numbers(curve, 200)
            if INF in row:
                wanted = row[1] == INF
            else:
                d, c, late = curve.period, curve.growth, len(curve.start) - curve.period
                overs = [d * one - c * beat for beat, one in enumerate(row)][1:]
                even = [beat for beat, over in enumerate(overs, 1) if over == 0]
                wanted = min(overs) >= 0 and (not even or max(even) >= max(late, 1))
            try:
                found = most_parts(curve)
            except TooMany:
                self.assertTrue(wanted)
                self.assertNotEqual(within(curve, 20), closure(curve))
                continue
            self.assertEqual(found is not None, wanted)
            seen[wanted] += 1
            if wanted:
                self.assertEqual(within(curve, found), closure(curve))
                self.assertTrue(found == 0 or within(curve, found - 1) != closure(curve))
            else:
                self.assertNotEqual(within(curve, 20), closure(curve))
        self.assertGreater(min(seen.values()), 30)

    def test_by_hand(self):
        self.assertEqual(most_parts(line(3, 1, 1)), 1)
        self.assertIsNone(most_parts(Curve([1, 3, 4, 9], 1, 5)))
        self.assertEqual(most_parts(flat(None)), 0)
        self.assertEqual(most_parts(unit()), 0)
        self.assertIsNone(most_parts(Curve([0, 0, None], 1, 0)))
        self.assertEqual(most_parts(flat(0)), 1)

    def test_twenty_parts_and_more(self):
        self.assertEqual(most_parts(Curve([0, 1, 20], 1, 0)), 19)
        self.assertEqual(most_parts(Curve([0, 1, 21], 1, 0)), 20)
        self.too_many(20, most_parts, Curve([0, 1, 22], 1, 0))
        self.too_many(20, most_parts, Curve([0, 1, 23], 1, 0))
        self.too_many(20, most_parts, Curve([0, 1, BIG], 1, 0))

    def test_too_many_values(self):
        def steps(number):
            return Curve([0] + [1] * 398 + [number], 1, 0)
        self.assertEqual(most_parts(steps(8)), 7)
        self.too_many(4000, most_parts, steps(15))
        self.too_many(4000, most_parts, steps(30))
        self.too_many(400, most_parts, later(flat(1), 400))
        self.too_many(400, most_parts, later(unit(), 399))
        # That the closure has too many values does not matter where there is no number.
        self.too_many(4000, closure, two_parts(64, 10))
        self.assertIsNone(most_parts(two_parts(64, 10)))


class Wrong(Case):
    def test_refuses(self):
        for thing in (None, 0, [0, 1], "curve"):
            self.refuses(BadCurve, most_parts, thing, part=None)
            self.refuses(BadCurve, within, thing, -1, part=None)
        for wrong in NO_NUMBERS + (-1, 21):
            self.refuses(BadNumber, within, flat(0), wrong, part="number")


if __name__ == "__main__":
    unittest.main()
