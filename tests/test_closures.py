"""[4], [22], [28]: closures."""

import unittest

from worstwait.closures import closure, cuts, first_break, is_closed
from worstwait.curves import Curve, flat, line, value
from worstwait.errors import BadCurve, BadNumber
from worstwait.foldings import folding, unit
from worstwait.joined import is_below, later, least_of, raised, sum_of
from tests.plain import INF, NO_NUMBERS, Case, Lots, numbers, some_curve

BIG = 10 ** 9


def plain_closure(curve, many):
    """The least sums, part by part: the last part is each beat from 1 on."""
    row = numbers(curve, many)
    told = [0]
    for beat in range(1, many):
        told.append(min(row[part] + told[beat - part] for part in range(1, beat + 1)))
    return told


def plain_break(curve, most):
    row = numbers(curve, most + 1)
    if row[0] != 0:
        return 0, 0
    for total in range(most + 1):
        for low in range(total // 2 + 1):
            if row[total] > row[low] + row[total - low]:
                return low, total - low
    return None


def two_parts(first, more):
    """A curve closed by parts of lengths first and first + 1 alone, the longer one dearer by next to nothing."""
    cheap = first * more - 1
    return Curve([0] + [cheap] * first + [(first + 1) * more - 1, None], 1, 0)


class Closures(Case):
    def test_least_sums(self):
        lots = Lots(31)
        for _ in range(250):
            curve = some_curve(lots)
            self.same(closure(curve), plain_closure(curve, 150))

    def test_longer_starts(self):
        lots = Lots(32)
        for _ in range(40):
            curve = some_curve(lots, 25, 30)
            self.same(closure(curve), plain_closure(curve, 500))

    def test_hard_ones(self):
        for curve in (two_parts(9, 7), two_parts(20, 40), Curve([0, 8, 9, 9, 30], 3, 21),
                      Curve([0, 5, 300], 1, 0), Curve([0, 1, 500, 500, 501], 2, 1),
                      Curve([2, 100, 100, 101, 700], 3, 601), Curve([0, 10, 10, 10, 13, 16], 5, 16),
                      Curve([0, 7, 7, 9], 3, 6), Curve([1, 3, 3], 3, 5), Curve([0, 3, 3], 3, 5)):
            self.same(closure(curve), plain_closure(curve, 900))

    def test_parts_longer_than_the_start(self):
        # The growth is next to as cheap as the cheapest part, so that far parts count.
        for row, period, growth in (([0] + [25] * 5 + [31, 35, 42, 47, 52, 55, 60], 7, 35),
                                    ([0] + [15] * 5 + [18, 22, 24, 29, 31, 34], 4, 12),
                                    ([0] + [66] * 11 + [73, 80, 84, 91, 96, 104, 108, 116, 120], 7, 42),
                                    ([0] + [6] * 6 + [8, 8, 9, 10, 11, 12, 14], 7, 7)):
            self.same(closure(Curve(row, period, growth)), plain_closure(Curve(row, period, growth), 400))
        lots = Lots(38)
        for _ in range(60):
            cheap, period = 2 + lots.below(9), 1 + lots.below(7)
            cost = cheap * (1 + lots.below(9))
            row = [0] + [cost] * cheap
            while len(row) < cheap + period + 1 + lots.below(3):
                row.append(max(row[-1], -(-cost * len(row) // cheap) + lots.below(3)))
            growth = max(row[-1] - row[len(row) - period], -(-cost * period // cheap)) + lots.below(2)
            curve = Curve(row, period, growth)
            self.same(closure(curve), plain_closure(curve, 250))

    def test_greatest(self):
        lots = Lots(33)
        for _ in range(80):
            curve = some_curve(lots)
            told = closure(curve)
            self.assertTrue(is_closed(told))
            self.assertEqual(told == curve, is_closed(curve))
            at0 = Curve([0, None], 1, 0)
            self.assertTrue(is_below(told, sum_of(least_of(curve, flat(None)), flat(BIG))))
            self.assertEqual(least_of(told, least_of(curve, at0)).start[1:2], told.start[1:2])
            other = closure(some_curve(lots))
            if all(x <= y for x, y in list(zip(numbers(other, 200), numbers(curve, 200)))[1:]):
                self.assertTrue(is_below(other, told))

    def test_laws(self):
        lots = Lots(34)
        for _ in range(80):
            one, two = some_curve(lots), some_curve(lots)
            told = closure(one)
            self.assertEqual(closure(told), told)
            self.assertEqual(closure(least_of(one, two)), folding(told, closure(two)))
            self.assertEqual(folding(told, told), told)

    def test_by_hand(self):
        told = closure(Curve([1, 3, 4, 9], 1, 5))
        self.assertEqual((told.start, told.period, told.growth), ((0, 3), 2, 4))
        self.assertEqual(closure(line(3, 1, 1)), line(3, 1, 1))
        self.assertEqual(closure(flat(None)), unit())
        self.assertEqual(closure(Curve([7, None], 1, 0)), unit())
        self.assertEqual(closure(flat(0)), flat(0))
        self.assertEqual(closure(Curve([0, 5, None], 1, 0)), line(0, 5, 1))
        self.assertEqual(closure(raised(flat(0), 4)), Curve([0, 4], 1, 0))

    def test_far_beats(self):
        told = closure(two_parts(9, 7))
        cheap = 9 * 7 - 1
        self.assertEqual(value(told, 9 * 10 ** 9), cheap * 10 ** 9)

    def test_limits(self):
        self.too_many(400, closure, later(line(1, 1, 1), 399))
        self.assertEqual(closure(later(line(1, 1, 1), 398)), flat(0))
        self.assertEqual(closure(Curve([0] * 400, 1, 0)), flat(0))
        # The longer parts are needed up to 62, and up to 63 times.
        self.assertEqual(len(closure(two_parts(63, 10)).start), 63 ** 2)
        self.same(closure(two_parts(63, 10)), plain_closure(two_parts(63, 10), 4200))
        self.too_many(4000, closure, two_parts(64, 10))
        # A cheap short part is ahead till a long one pays.
        self.assertEqual(len(closure(Curve([0, 1, 3999], 1, 0)).start), 4000)
        self.too_many(4000, closure, Curve([0, 1, 4000], 1, 0))
        self.too_many(4000, closure, Curve([0, 1, BIG], 1, 0))
        self.too_many(400, closure, later(flat(None), 400))
        self.assertEqual(closure(later(unit(), 1)), closure(Curve([0, 0, None], 1, 0)))


class Breaks(Case):
    def test_first_break(self):
        lots = Lots(35)
        for _ in range(300):
            curve = some_curve(lots)
            self.assertEqual(first_break(curve), plain_break(curve, 40))
            self.assertIs(is_closed(curve), plain_break(curve, 40) is None)

    def test_close_ones(self):
        lots = Lots(36)
        for _ in range(60):
            row = list(closure(some_curve(lots, 5, 6, False)).start) + [None]
            curve = Curve(row[:6] + [None], 1, 0) if len(row) > 6 else Curve(row, 1, 0)
            self.assertEqual(first_break(curve), plain_break(curve, 40))

    def test_edges(self):
        self.assertIsNone(first_break(unit()))
        self.assertEqual(first_break(flat(None)), (0, 0))
        self.assertEqual(first_break(flat(1)), (0, 0))
        self.assertEqual(first_break(Curve([0, 1, None], 1, 0)), (1, 1))
        self.assertEqual(first_break(Curve([0, 2, 3, 7], 1, 4)), (1, 2))

    def test_long_starts(self):
        curve = later(line(0, 1, 1), 3998)
        self.assertEqual(len(curve.start), 3999)
        self.assertEqual(first_break(curve), (1, 3998))
        self.assertFalse(is_closed(curve))
        self.assertTrue(is_closed(least_of(flat(3999), line(0, 1, 1))))
        self.assertEqual(first_break(later(unit(), 3998)), (1, 3998))


class Cuts(Case):
    def test_cuts(self):
        lots = Lots(37)
        for _ in range(120):
            curve = some_curve(lots)
            row, told = numbers(curve, 61), plain_closure(curve, 61)
            for beat in (0, 1, 2, 9, 60):
                found = cuts(curve, beat)
                if told[beat] == INF:
                    self.assertIsNone(found)
                    continue
                self.assertIs(type(found), list)
                self.assertEqual(sum(found), beat)
                self.assertTrue(all(part >= 1 for part in found))
                self.assertEqual(sum(row[part] for part in found), told[beat])

    def test_edges(self):
        self.assertEqual(cuts(flat(None), 0), [])
        self.assertIsNone(cuts(flat(None), 1))
        self.assertEqual(sorted(cuts(Curve([1, 3, 4, 9], 1, 5), 5)), [1, 2, 2])
        self.assertEqual(sum(cuts(line(0, 3, 7), 400)), 400)
        self.assertEqual(cuts(Curve([0, 5, None], 1, 0), 400), [1] * 400)
        # It looks at its beat alone: no closure is told of these.
        self.assertEqual(sum(cuts(later(line(0, 1, 1), 3999), 400)), 400)
        self.assertEqual(cuts(Curve([0, 1, BIG], 1, 0), 400), [1] * 400)


class Wrong(Case):
    def test_refuses(self):
        for thing in (None, 0, [0, 1], "curve"):
            for call in (closure, first_break, is_closed):
                self.refuses(BadCurve, call, thing, part=None)
            self.refuses(BadCurve, cuts, thing, -1, part=None)
        for wrong in NO_NUMBERS + (-1, 401):
            self.refuses(BadNumber, cuts, flat(None), wrong, part="beat")


if __name__ == "__main__":
    unittest.main()
