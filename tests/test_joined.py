"""[3], [4], [11]: curves compared and joined."""

import unittest

from worstwait.curves import Curve, flat, late, line, value
from worstwait.errors import BadCurve, BadNumber
from worstwait.foldings import unit
from worstwait.inverses import reach
from worstwait.joined import (first_above, is_below, later, least_of, most_of, raised, sooner, sum_of,
                              times)
from tests.plain import INF, NO_NUMBERS, Case, Lots, numbers, some_curve

BIG = 10 ** 9
PAIRS = (first_above, is_below, least_of, most_of, sum_of)


class Compared(Case):
    def test_first_above(self):
        lots = Lots(11)
        for _ in range(400):
            one, two = some_curve(lots), some_curve(lots)
            rows = zip(numbers(one, 400), numbers(two, 400))
            above = [beat for beat, (x, y) in enumerate(rows) if x > y]
            self.assertEqual(first_above(one, two), above[0] if above else None)
            self.assertIs(is_below(one, two), not above)

    def test_far_away(self):
        self.assertEqual(first_above(line(0, 1, 1), flat(BIG)), BIG + 1)
        slow, fast = line(10 ** 7, 1, 60), line(0, 1, 59)
        found = first_above(fast, slow)
        self.assertGreater(value(fast, found), value(slow, found))
        for beat in range(found - 8000, found):
            self.assertLessEqual(value(fast, beat), value(slow, beat))
        self.assertEqual(found % 59, 0)
        self.assertIsNone(first_above(slow, raised(fast, BIG)))

    def test_none(self):
        for one, two, wanted in ((flat(None), flat(None), None), (flat(None), flat(BIG), 0),
                                 (unit(), line(0, 1, 1), 1), (unit(), unit(), None),
                                 (line(5, 1, 1), Curve([5, 5, 6, None], 1, 0), 1),
                                 (later(unit(), 3), later(unit(), 2), None),
                                 (later(unit(), 2), later(unit(), 3), 3)):
            self.assertEqual(first_above(one, two), wanted)


class Joined(Case):
    def joins(self, one, two, many=400):
        x, y = numbers(one, many), numbers(two, many)
        self.same(least_of(one, two), [min(a, b) for a, b in zip(x, y)])
        self.same(most_of(one, two), [max(a, b) for a, b in zip(x, y)])
        self.same(sum_of(one, two), [a + b for a, b in zip(x, y)])

    def test_values(self):
        lots = Lots(12)
        for _ in range(300):
            one, two = some_curve(lots), some_curve(lots)
            self.joins(one, two)
            for join in (least_of, most_of, sum_of):
                self.assertEqual(join(one, two), join(two, one))
            self.assertEqual(least_of(one, most_of(one, two)), one)

    def test_a_late_last_change(self):
        # The slower one goes above the faster one again and again for long.
        slow, fast = Curve([0] * 59 + [70], 60, 70), Curve([0] * 58 + [40], 59, 70)
        self.joins(slow, fast, 9000)
        self.joins(line(40, 3, 7), late(5, 4, 9), 3000)

    def test_later_sooner_raised_times(self):
        lots = Lots(13)
        for _ in range(200):
            curve, many = some_curve(lots), lots.below(15)
            row = numbers(curve, 80)
            self.same(later(curve, many), ([0] * many + row)[:80])
            self.same(sooner(curve, many), row[many:])
            self.same(raised(curve, many), [one + many for one in row])
            self.same(times(curve, many), [INF if one == INF else one * many for one in row])
        self.assertEqual(times(Curve([2, None], 1, 0), 0), unit())
        self.assertEqual(times(line(3, 1, 1), 0), flat(0))
        self.assertEqual(sooner(unit(), 4000), flat(None))
        self.assertEqual(value(times(line(0, BIG, 1), BIG), 7), 7 * BIG * BIG)
        self.assertEqual(value(raised(flat(BIG), BIG), 0), 2 * BIG)


class Limits(Case):
    def test_4000_values(self):
        self.assertEqual(len(later(line(0, 1, 1), 3999).start), 4000)
        self.too_many(4000, later, line(0, 1, 1), 4000)
        self.assertEqual(later(flat(0), 4000), flat(0))
        self.assertEqual(len(later(flat(1), 3999).start), 4000)
        self.too_many(4000, later, flat(1), 4000)
        self.assertEqual(len(least_of(flat(3999), line(0, 1, 1)).start), 4000)
        self.too_many(4000, least_of, line(0, 1, 1), flat(4000))
        self.too_many(4000, least_of, line(0, 1, 1), flat(BIG))
        self.assertEqual(len(most_of(flat(3999), line(0, 1, 1)).start), 4000)
        self.too_many(4000, most_of, line(0, 1, 1), flat(4000))
        self.too_many(4000, most_of, line(0, 1, 60), flat(BIG))
        self.assertEqual(len(most_of(later(flat(1), 3000), later(flat(1), 3999)).start), 3001)
        big = later(unit(), 3998)
        self.assertEqual(len(big.start), 4000)
        self.assertEqual(least_of(big, later(unit(), 10)), big)
        self.assertEqual(len(sum_of(later(flat(1), 3999), flat(None)).start), 1)

    def test_least_forms_count(self):
        # On the way more values are looked at than the least form has.
        one, two = later(flat(7), 3990), later(line(7, 0, 60), 3989)
        self.assertEqual(most_of(one, two), one)
        self.assertEqual(sum_of(one, one), times(one, 2))

    def test_common_periods(self):
        one = reach(Curve([0], 1, 125))
        self.assertEqual((one.period, one.growth), (125, 1))
        two, three = line(0, 1, 32), line(0, 1, 33)
        self.assertEqual(first_above(two, one), 64)
        self.assertEqual(sum_of(one, two).period, 4000)
        self.same(sum_of(one, two), [-(-t // 125) + t // 32 for t in range(9000)])
        for call in PAIRS:
            self.too_many(4000, call, one, three)
            self.too_many(4000, call, three, one)
            call(one, unit())
            call(flat(None), three)
        self.assertEqual(sum_of(line(0, 1, 60), line(0, 1, 59)).period, 3540)
        self.too_many(4000, first_above, sum_of(line(0, 1, 60), line(0, 1, 59)), line(9, 1, 7))
        self.assertEqual(first_above(line(1, 1, 1), sum_of(line(0, 1, 60), line(0, 1, 59))), 1)


class Wrong(Case):
    def test_no_curves(self):
        for call in PAIRS:
            for thing in (None, 3, [0], "curve"):
                self.refuses(BadCurve, call, thing, flat(0), part=None)
                self.refuses(BadCurve, call, flat(0), thing, part=None)
        for call in (later, sooner, raised, times):
            self.refuses(BadCurve, call, [0], -1, part=None)

    def test_bad_numbers(self):
        for call in (later, sooner):
            for wrong in NO_NUMBERS + (-1, 4001):
                self.refuses(BadNumber, call, line(0, 1, 1), wrong, part="beats")
        for call in (raised, times):
            for wrong in NO_NUMBERS + (-1, BIG + 1):
                self.refuses(BadNumber, call, line(0, 1, 1), wrong, part="number")

    def test_names_of_parameters(self):
        one, two = line(0, 1, 1), flat(1)
        self.assertEqual(first_above(curve=one, other=two), 2)
        self.assertEqual(later(curve=one, beats=0), sooner(curve=one, beats=0))
        self.assertEqual(raised(curve=two, number=2), times(curve=two, number=3))


if __name__ == "__main__":
    unittest.main()
