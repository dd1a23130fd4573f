"""[4], [20], [26], [27], [28]: foldings."""

import unittest

from worstwait.curves import Curve, flat, late, line, value, values
from worstwait.errors import BadCurve, BadNumber
from worstwait.foldings import folding, split_at, unit
from worstwait.inverses import reach
from worstwait.joined import is_below, later, least_of, raised
from tests.plain import INF, NO_NUMBERS, Case, Lots, numbers, some_curve

BIG = 10 ** 9


def plain_folding(one, two, many):
    x, y = numbers(one, many), numbers(two, many)
    return [min(x[s] + y[t - s] for s in range(t + 1)) for t in range(many)]


class Foldings(Case):
    def test_least_sums(self):
        lots = Lots(21)
        for _ in range(250):
            one, two = some_curve(lots), some_curve(lots)
            self.same(folding(one, two), plain_folding(one, two, 90))

    def test_all_beats(self):
        # Far beats: by the period that holds for any two such curves in the end.
        lots = Lots(22)
        for _ in range(60):
            one, two = some_curve(lots, 4, 3, False), some_curve(lots, 4, 3, False)
            told = folding(one, two)
            row = plain_folding(one, two, 400)
            self.assertEqual([value(told, beat) for beat in range(400)], row)

    def test_a_late_change(self):
        # The cheaper way far out is ahead of it the dearer one for long.
        fast, slow = Curve([0, 3, 5], 2, 6), Curve([0, 900], 1, 1)
        self.same(folding(fast, slow), plain_folding(fast, slow, 1200))
        fast, slow = line(0, 7, 5), Curve([0, 3, 500, 501], 2, 2)
        self.same(folding(fast, slow), plain_folding(fast, slow, 1500))
        one, two = line(2, 1, 60), line(1, 1, 59)
        row = plain_folding(one, two, 300)
        self.same(folding(one, two), row)

    def test_laws(self):
        lots = Lots(23)
        for _ in range(80):
            one, two, three = some_curve(lots), some_curve(lots), some_curve(lots)
            both = folding(one, two)
            self.assertEqual(both, folding(two, one))
            self.assertEqual(folding(both, three), folding(one, folding(two, three)))
            self.assertEqual(folding(one, unit()), one)
            self.assertEqual(folding(unit(), one), one)
            self.assertEqual(folding(one, least_of(two, three)), least_of(both, folding(one, three)))
            above = raised(one, lots.below(3))
            self.assertTrue(is_below(both, folding(above, two)))

    def test_later_in_the_sense_of_waits(self):
        lots = Lots(24)
        for _ in range(60):
            curve, wait = some_curve(lots), lots.below(6)
            late0 = Curve([0] * (wait + 1) + [None], 1, 0)
            row = numbers(curve, 50)
            self.same(folding(curve, late0), ([row[0]] * wait + row)[:50])

    def test_by_hand(self):
        one, two = line(3, 1, 1), late(2, 2, 1)
        self.assertEqual(values(folding(one, two), 9), [0, 0, 0, 2, 4, 6, 7, 8, 9])
        self.assertEqual(values(unit(), 3), [0, None, None])
        self.assertEqual(folding(flat(None), one), flat(None))
        self.assertEqual(folding(Curve([5, None], 1, 0), Curve([7], 1, 0)), flat(12))


class Splits(Case):
    def test_least_split(self):
        lots = Lots(25)
        for _ in range(150):
            one, two = some_curve(lots), some_curve(lots)
            for beat in (0, 1, 2, 7, 30):
                x, y = numbers(one, beat + 1), numbers(two, beat + 1)
                sums = [x[s] + y[beat - s] for s in range(beat + 1)]
                wanted = None if min(sums) == INF else sums.index(min(sums))
                self.assertEqual(split_at(one, two, beat), wanted)

    def test_looks_at_its_beat_alone(self):
        one, two = reach(Curve([0], 1, 125)), line(0, 1, 33)
        self.too_many(4000, folding, one, two)
        self.assertEqual(split_at(one, two, 400), 400 - 32)
        self.assertEqual(split_at(later(unit(), 3000), later(unit(), 3000), 400), 0)
        self.assertEqual(split_at(line(0, 1, 1), flat(0), 400), 0)
        self.assertEqual(split_at(flat(0), line(0, 1, 1), 400), 400)
        self.assertIsNone(split_at(unit(), unit(), 1))
        self.assertEqual(split_at(unit(), unit(), 0), 0)

    def test_refuses(self):
        for wrong in NO_NUMBERS + (-1, 401):
            self.refuses(BadNumber, split_at, unit(), unit(), wrong, part="beat")
        self.refuses(BadCurve, split_at, unit(), 0, -1, part=None)
        self.refuses(BadCurve, split_at, 0, unit(), -1, part=None)


class Limits(Case):
    def test_4000_values(self):
        one = later(unit(), 1998)
        self.assertEqual(len(folding(one, one).start), 3998)
        self.assertEqual(len(folding(one, later(unit(), 2000)).start), 4000)
        self.too_many(4000, folding, one, later(unit(), 2001))
        self.assertEqual(len(folding(Curve([0, 3999], 1, 0), line(0, 1, 1)).start), 4000)
        self.too_many(4000, folding, Curve([0, 4000], 1, 0), line(0, 1, 1))
        self.too_many(4000, folding, line(0, 1, 1), Curve([0, BIG], 1, 0))
        self.assertEqual(len(folding(later(flat(1), 1999), later(line(0, 1, 1), 2000)).start), 4000)
        self.too_many(4000, folding, later(flat(1), 2000), later(line(0, 2, 1), 2001))
        self.assertEqual(folding(flat(None), later(unit(), 3998)), flat(None))
        self.assertEqual(folding(later(unit(), 3998), unit()), later(unit(), 3998))

    def test_common_periods(self):
        one, two = reach(Curve([0], 1, 125)), line(0, 1, 32)
        told = folding(one, two)
        self.same(told, plain_folding(one, two, 300))
        self.assertEqual(value(told, 10 ** 6), min(-(-(10 ** 6 - u) // 125) + u // 32 for u in range(200)))
        self.too_many(4000, folding, line(0, 1, 33), one)
        self.assertEqual(folding(unit(), one), one)

    def test_refuses(self):
        for thing in (None, 0, [0], (0,), "unit"):
            self.refuses(BadCurve, folding, thing, unit(), part=None)
            self.refuses(BadCurve, folding, unit(), thing, part=None)


if __name__ == "__main__":
    unittest.main()
