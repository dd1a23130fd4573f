"""[21], [27], [28]: unfoldings."""

import unittest

from worstwait.closures import closure, is_closed
from worstwait.curves import Curve, flat, late, line, rate, value
from worstwait.errors import BadCurve, BadNumber
from worstwait.foldings import folding, unit
from worstwait.joined import is_below, later, most_of, raised, sum_of, times
from worstwait.unfoldings import spread_at, unfolding
from tests.plain import INF, NO_NUMBERS, Case, Lots, long_curve, numbers, some_curve, told

BIG = 10 ** 9


def plain_unfolding(one, two, many, far=400):
    """The greatest differences, over the beats below far; INF if a later one is still greater."""
    f, g = numbers(one, many + 2 * far), numbers(two, 2 * far)
    rows = []
    for t in range(many):
        usable = [u for u in range(2 * far) if g[u] != INF]
        near = max([0] + [f[t + u] - g[u] for u in usable if u < far])
        whole = max([0] + [f[t + u] - g[u] for u in usable])
        rows.append(INF if whole > near else whole)
    return rows


def plain_spread(one, two, beat, far=300):
    """The least beat with the unfolding's value, as [21] tells it."""
    best = plain_unfolding(one, two, beat + 1)[beat]
    f, g = numbers(one, beat + far), numbers(two, far)
    for u in range(far):
        if g[u] != INF and f[beat + u] - g[u] == best:
            return u
    return None


class Unfoldings(Case):
    def test_greatest_differences(self):
        lots = Lots(301)
        for _ in range(120):
            one, two = some_curve(lots), some_curve(lots)
            self.same(unfolding(one, two), plain_unfolding(one, two, 30, 120))

    def test_steep_ones(self):
        lots = Lots(302)
        for _ in range(60):
            one, two = some_curve(lots, 9, 30), some_curve(lots, 9, 30)
            self.same(unfolding(one, two), plain_unfolding(one, two, 40, 300))

    def test_when_it_is_without_end(self):
        lots = Lots(303)
        seen = {True: 0, False: 0}
        for _ in range(200):
            one, two = some_curve(lots, nones=False), some_curve(lots, nones=False)
            (up, beats), (most, period) = rate(one), rate(two)
            faster = up * period > most * beats
            curve = unfolding(one, two)
            self.assertIs(curve == flat(None), faster)
            self.assertIs(curve.start[-1] is None, faster)
            seen[faster] += 1
        self.assertTrue(min(seen.values()) > 30)

    def test_nones(self):
        going, ending = line(2, 1, 1), Curve([1, 3, 4, None], 1, 0)
        for one, two, row in (
                (flat(None), going, [None]), (ending, going, [None]), (going, flat(None), [0, 0]),
                (ending, flat(None), [0, 0]), (flat(None), flat(None), [0]),
                (ending, unit(), [1, 3, 4, None]), (going, unit(), [0, 3, 4, 5]),
                (ending, ending, [0, None]), (going, ending, [0, 2, 3, 4]), (ending, Curve([0, 0, 9, None], 1, 0), [3, None]),
                (ending, Curve([0, 0, 9, 9, 9, None], 1, 0), [None])):
            curve = unfolding(one, two)
            self.assertEqual([value(curve, beat) for beat in range(len(row))], row)
        self.assertEqual(unfolding(ending, flat(None)), flat(0))

    def test_far_below(self):
        # 0 as long as all differences are below it.
        one, two = line(0, 1, 1), Curve([500, None], 1, 0)
        self.same(unfolding(one, two), [max(0, t - 500) for t in range(700)])
        one = Curve([0, 0, 2], 2, 3)
        row = numbers(one, 900)
        self.same(unfolding(one, raised(unit(), 1000)), [max(0, x - 1000) for x in row])
        self.assertEqual(unfolding(flat(3), raised(unit(), 1000)), flat(0))
        self.assertEqual(unfolding(line(0, 1, 1), raised(line(0, 1, 1), 50)).start[:52], (0,) * 51)

    def test_laws(self):
        lots = Lots(304)
        for _ in range(120):
            one, two, three = some_curve(lots), some_curve(lots), some_curve(lots)
            curve = unfolding(one, two)
            self.assertIs(is_below(one, folding(three, two)), is_below(curve, three))
            self.assertTrue(is_below(one, folding(curve, two)))
            self.assertEqual(unfolding(one, folding(two, three)), unfolding(curve, three))
            self.assertEqual(unfolding(most_of(one, two), three),
                             most_of(unfolding(one, three), unfolding(two, three)))
            self.assertTrue(is_closed(unfolding(one, one)) or value(unfolding(one, one), 0) is None)
            self.assertTrue(is_below(unfolding(folding(one, two), two), one))
            above = sum_of(one, raised(flat(0), lots.below(3)))
            self.assertTrue(is_below(curve, unfolding(above, two)))
            self.assertTrue(is_below(unfolding(two, above), unfolding(two, one)))

    def test_itself(self):
        lots = Lots(305)
        for _ in range(60):
            one = some_curve(lots, nones=False)
            self.assertTrue(is_closed(unfolding(one, one)))
            closed = closure(one)
            if closed.start[-1] is not None:
                self.assertEqual(unfolding(closed, closed), closed)

    def test_by_hand(self):
        one, two = line(3, 1, 1), late(2, 2, 1)
        self.assertEqual(unfolding(one, two), Curve([5], 1, 1))
        self.assertEqual(spread_at(one, two, 0), 2)
        self.assertEqual(spread_at(one, two, 400), 2)


class Spreads(Case):
    def test_least_beats(self):
        lots = Lots(306)
        found = {True: 0, False: 0}
        for _ in range(200):
            one, two = some_curve(lots), some_curve(lots)
            for beat in (0, 1, 2, 9, 40):
                wanted = plain_spread(one, two, beat)
                if told(plain_unfolding(one, two, beat + 1))[beat] is None and one.start[-1] is not None:
                    wanted = None
                self.assertEqual(spread_at(one, two, beat), wanted)
                found[wanted is None] += 1
        self.assertTrue(min(found.values()) > 50)

    def test_edges(self):
        self.assertIsNone(spread_at(line(0, 1, 1), flat(3), 0))
        self.assertIsNone(spread_at(flat(0), flat(3), 5))
        self.assertEqual(spread_at(flat(3), flat(3), 5), 0)
        self.assertIsNone(spread_at(flat(3), flat(None), 5))
        self.assertEqual(spread_at(flat(None), flat(3), 0), 0)
        ending = Curve([0] * 399 + [None], 1, 0)
        self.assertEqual(spread_at(ending, line(0, 1, 1), 0), 399)
        self.assertEqual(spread_at(ending, flat(0), 398), 1)
        self.assertEqual(spread_at(ending, flat(0), 400), 0)
        self.assertEqual(spread_at(ending, Curve([0] * 399 + [None], 1, 0), 0), 0)
        self.assertEqual(spread_at(ending, unit(), 400), 0)
        self.assertEqual(spread_at(later(flat(7), 3999), unit(), 400), 0)
        self.assertEqual(spread_at(later(flat(7), 3999), flat(0), 400), 3599)


class Limits(Case):
    def test_too_unlike(self):
        def stair(beats):
            return closure(Curve([0] + [1] * beats + [None], 1, 0))
        for call, more in ((unfolding, ()), (spread_at, (3,))):
            self.too_many(4000, call, stair(59), stair(68), *more)
            self.too_many(4000, call, stair(68), stair(59), *more)
            call(stair(59), stair(61), *more)
            call(stair(125), stair(32), *more)
            call(stair(68), Curve([0] + [1] * 59 + [None], 1, 0), *more)
            call(Curve([0] + [1] * 59 + [None], 1, 0), stair(68), *more)
        self.refuses(BadNumber, spread_at, stair(59), stair(68), -1, part="beat")

    def test_long_starts(self):
        for many in (4000, 3000):
            curve = long_curve(many)
            self.assertEqual(unfolding(curve, unit()), curve)
        curve = later(line(0, 1, 1), 3999)
        self.assertEqual(len(unfolding(curve, unit()).start), 4000)
        self.assertEqual(unfolding(curve, raised(unit(), 0)), curve)
        self.too_many(4000, unfolding, curve, raised(unit(), 1))
        self.too_many(4000, unfolding, line(0, 1, 1), raised(unit(), 4000))
        self.assertEqual(len(unfolding(line(0, 1, 1), raised(unit(), 3999)).start), 4000)
        self.too_many(4000, unfolding, line(0, 1, 1), raised(unit(), BIG))
        self.assertEqual(unfolding(flat(5), raised(unit(), BIG)), flat(0))
        # What it is folded with may be so long, too.
        self.assertEqual(unfolding(curve, later(curve, 0)), line(0, 1, 1))
        # spread_at looks at its beat alone.
        self.assertIsNone(spread_at(line(0, 1, 1), raised(unit(), BIG), 0))
        self.assertEqual(value(unfolding(times(curve, BIG), times(curve, BIG)), 9), 9 * BIG)

    def test_refuses(self):
        for thing in (None, 0, [0, 1], "curve"):
            for call, more in ((unfolding, ()), (spread_at, (-1,))):
                self.refuses(BadCurve, call, thing, flat(1), *more, part=None)
                self.refuses(BadCurve, call, flat(1), thing, *more, part=None)
        for wrong in NO_NUMBERS + (-1, 401):
            self.refuses(BadNumber, spread_at, flat(None), flat(1), wrong, part="beat")


if __name__ == "__main__":
    unittest.main()
