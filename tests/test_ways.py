"""[25], [28]: ways up and across."""

import unittest

from worstwait.closures import closure
from worstwait.curves import Curve, flat, late, line, value
from worstwait.errors import BadCurve, TooMany
from worstwait.foldings import unit
from worstwait.inverses import reach
from worstwait.joined import first_above, is_below, later, raised, sooner, times
from worstwait.unfoldings import unfolding
from worstwait.ways import longest_across, most_above
from tests.plain import INF, Case, Lots, long_curve, numbers, raw_curve, some_curve

BIG = 10 ** 9


def stair(beats):
    """A curve of this period that rises by 1 at its end alone."""
    return closure(Curve([0] + [1] * beats + [None], 1, 0))


def plain_above(one, two, far=400):
    """The greatest gap as [25] tells it, of curves that have all behind them done by half of far beats."""
    f, g = numbers(one, far), numbers(two, far)
    gaps = []
    for mine, its in zip(f, g):
        gaps.append(0 if its == INF else (INF if mine == INF else max(0, mine - its)))
    most = max(gaps)
    if most == INF:
        return None, gaps.index(INF)
    if most > max(gaps[:far // 2]):
        return None, None
    return most, gaps.index(most)


def plain_across(one, two, far=300):
    """The longest wait as [25] tells it, likewise; beats without any w are told by where g ends."""
    f, g = numbers(one, far), numbers(two, 40 * far)
    waits = []
    end = 0
    for t, mine in enumerate(f):
        end = max(end, t)
        while end < len(g) and g[end] < mine:
            end += 1
        waits.append(end - t if end < len(g) else INF)
    longest = max(waits)
    if longest == INF:
        return None, waits.index(INF)
    if longest > max(waits[:far // 2]):
        return None, None
    return longest, waits.index(longest)


class Above(Case):
    def test_beat_by_beat(self):
        lots = Lots(501)
        seen = {}
        for _ in range(500):
            one, two = some_curve(lots), some_curve(lots)
            found = most_above(one, two)
            self.assertEqual(found, plain_above(one, two))
            self.assertIs(type(found), tuple)
            kind = found[0] is None, found[1] is None, found[1] == 0
            seen[kind] = seen.get(kind, 0) + 1
        self.assertEqual(len(seen), 5)
        self.assertGreater(min(seen.values()), 5)

    def test_nones(self):
        going, ending = line(2, 1, 1), Curve([1, 3, 4, None], 1, 0)
        for one, two, told in (
                (flat(None), going, (None, 0)), (going, flat(None), (0, 0)), (flat(None), flat(None), (0, 0)),
                (ending, going, (None, 3)), (going, ending, (0, 0)), (ending, ending, (0, 0)),
                (raised(ending, 2), ending, (2, 0)), (ending, Curve([0, 0, 0, None], 1, 0), (4, 2)),
                (ending, Curve([0, 0, 0, 9, None], 1, 0), (None, 3)), (ending, Curve([0, None], 1, 0), (1, 0)),
                (unit(), unit(), (0, 0)), (unit(), flat(0), (None, 1)), (flat(0), unit(), (0, 0)),
                (flat(3), unit(), (3, 0)), (times(line(0, 1, 1), BIG), Curve([0] * 399 + [None], 1, 0), (398 * BIG, 398))):
            self.assertEqual(most_above(one, two), told)

    def test_rates(self):
        self.assertEqual(most_above(line(3, 1, 2), line(0, 1, 2)), (3, 1))
        self.assertEqual(most_above(line(3, 59, 60), line(0, 58, 59)), (None, None))
        self.assertEqual(most_above(line(3, 58, 59), line(0, 59, 60)), (3, 1))
        # At beats 1, 3, 5 one is ahead by a half less than at 2, 4.
        self.assertEqual(most_above(line(0, 1, 1), line(0, 1, 2)), (None, None))
        self.assertEqual(most_above(Curve([0, 0, 5], 2, 5), Curve([0, 0, 0, 8], 3, 8)), (5, 2))
        self.assertEqual(most_above(flat(5), flat(4)), (1, 0))
        self.assertEqual(most_above(later(flat(5), 3999), flat(4)), (1, 3999))

    def test_laws(self):
        lots = Lots(502)
        for _ in range(300):
            one, two = some_curve(lots), some_curve(lots)
            self.assertEqual(most_above(one, two)[0], value(unfolding(one, two), 0))


class Across(Case):
    def test_beat_by_beat(self):
        lots = Lots(503)
        seen = {}
        for _ in range(200):
            one, two = some_curve(lots), some_curve(lots)
            found = longest_across(one, two)
            self.assertIs(type(found), tuple)
            self.assertEqual(found, plain_across(one, two))
            kind = found[0] is None, found[1] is None, found[1] == 0
            seen[kind] = seen.get(kind, 0) + 1
        self.assertEqual(len(seen), 5)

    def test_nones(self):
        going, ending = line(2, 1, 1), Curve([1, 3, 4, None], 1, 0)
        for one, two, told in (
                (flat(None), going, (None, 0)), (going, flat(None), (0, 0)), (flat(None), flat(None), (0, 0)),
                (ending, going, (None, 3)), (ending, flat(3), (None, 2)), (ending, flat(4), (None, 3)),
                (ending, ending, (0, 0)), (ending, Curve([0, 0, 0, None], 1, 0), (3, 0)), (unit(), ending, (2, 1)),
                (unit(), unit(), (0, 0)), (flat(0), unit(), (0, 0)), (flat(3), unit(), (1, 0)),
                (flat(9), Curve([0] * 399 + [None], 1, 0), (399, 0)), (later(flat(1), 398), ending, (0, 0)),
                (later(flat(1), 398), Curve([0] * 399 + [None], 1, 0), (1, 398))):
            self.assertEqual(longest_across(one, two), told)

    def test_ends(self):
        # The other one ends at a number: it is never come to, first at the least such beat.
        self.assertEqual(longest_across(line(0, 1, 60), flat(BIG)), (None, 60 * BIG + 60))
        self.assertEqual(longest_across(times(line(0, 1, 60), 7), flat(20)), (None, 180))
        self.assertEqual(longest_across(flat(BIG), line(0, 1, 60)), (60 * BIG, 0))
        self.assertEqual(longest_across(later(flat(BIG), 4000 - 1), late(300, BIG, 1)), (0, 0))
        self.assertEqual(longest_across(later(flat(BIG), 250), late(300, BIG, 1)), (51, 250))
        self.assertEqual(longest_across(line(7, 1, 1), late(2, 1, 1)), (9, 1))
        self.assertEqual(longest_across(line(7, 2, 1), late(2, 1, 1)), (None, None))
        self.assertEqual(longest_across(line(7, 0, 1), line(0, 0, 1)), (None, 1))
        self.assertEqual(longest_across(line(7, 0, 1), line(7, 0, 1)), (0, 0))

    def test_laws(self):
        lots = Lots(504)
        for _ in range(300):
            one, two = some_curve(lots), some_curve(lots)
            wait, beat = longest_across(one, two)
            self.assertEqual(wait, most_above(reach(two), reach(one))[0])
            if wait is None:
                for w in (0, 3, 50, 3000):
                    self.assertFalse(is_below(one, sooner(two, w)))
            else:
                self.assertTrue(is_below(one, sooner(two, wait)))
                if wait > 0:
                    self.assertEqual(first_above(one, sooner(two, wait - 1)), beat)

    def test_great_numbers(self):
        lots = Lots(505)
        for _ in range(60):
            start, period, growth = raw_curve(lots, 9, BIG // 12)
            one = Curve(start, period, min(BIG, growth * lots.below(BIG)) if start[-1] is not None else 0)
            two = line(lots.below(BIG), 1 + lots.below(BIG), 1 + lots.below(60))
            wait, beat = longest_across(one, two)
            if wait is None and beat is None:
                self.assertGreater(one.growth * two.period, two.growth * one.period)
            elif wait is None:
                self.assertIsNone(value(one, beat))
                self.assertTrue(beat == 0 or value(one, beat - 1) is not None)
            elif wait > 0:
                self.assertGreaterEqual(value(two, beat + wait), value(one, beat))
                self.assertLess(value(two, beat + wait - 1), value(one, beat))


class Edges(Case):
    def test_by_hand(self):
        self.assertEqual(most_above(line(3, 1, 1), late(2, 2, 1)), (5, 2))
        self.assertEqual(longest_across(line(3, 1, 1), late(2, 2, 1)), (3, 1))

    def test_too_unlike(self):
        for call in (most_above, longest_across):
            self.too_many(4000, call, stair(59), stair(68))
            self.too_many(4000, call, stair(68), stair(59))
            call(stair(59), stair(67))
            call(stair(125), stair(32))
            call(stair(68), Curve([0] + [1] * 59 + [None], 1, 0))
            call(Curve([0] + [1] * 59 + [None], 1, 0), stair(68))
        # 59 * 61 beats go by until all comes again.
        one, two = Curve([0] * 59 + [1], 60, 60), line(1, 1, 59)
        self.assertEqual(most_above(two, one), plain_above(two, one, 8000))
        self.assertEqual(most_above(one, two), (None, None))

    def test_long_starts(self):
        curve = long_curve(4000)
        for call in (most_above, longest_across):
            self.assertEqual(call(curve, curve), (0, 0))
            self.assertEqual(call(curve, flat(None)), (0, 0))
        self.assertEqual(most_above(curve, flat(1)), (4, 3999))
        self.assertEqual(longest_across(curve, flat(1)), (None, 3999))
        self.assertEqual(longest_across(raised(curve, 5), curve), (None, 3997))
        self.assertEqual(longest_across(raised(curve, 4), curve), (None, 3999))
        self.assertEqual(longest_across(flat(5), curve), (3999, 0))

    def test_refuses(self):
        for thing in (None, 0, [0, 1], "curve", True):
            for call in (most_above, longest_across):
                self.refuses(BadCurve, call, thing, flat(1), part=None)
                self.refuses(BadCurve, call, flat(1), thing, part=None)
                self.refuses(BadCurve, call, thing, thing, part=None)
        self.assertRaises(TooMany, most_above, curve=stair(59), other=stair(68))


if __name__ == "__main__":
    unittest.main()
