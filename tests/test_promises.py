"""[31]: promises kept and broken."""

import unittest

from worstwait.closures import closure
from worstwait.curves import Curve, flat, late, line, value
from worstwait.errors import BadCurve, BadTraffic
from worstwait.foldings import folding, unit
from worstwait.joined import is_below, later, raised, sum_of, times
from worstwait.promises import breach, keeps
from worstwait.traffics import curve_of, first_beats
from tests.plain import Case, Lots, long_curve, numbers, some_curve
from tests.test_traffics import NO_TRAFFICS, some_traffic

BIG = 10 ** 9


def plain_breach(row, promise):
    """The least t, and of these the greatest s, as [31] tells it, within a row."""
    most = numbers(promise, len(row))
    for end in range(len(row)):
        for begin in range(end - 1, -1, -1):
            if row[end] - row[begin] > most[end - begin]:
                return begin, end
    return None


def plain_row(traffic):
    return [sum(traffic[:beat]) for beat in range(len(traffic) + 1)]


def some_endless(lots, longest=7, steepest=4):
    told = some_curve(lots, longest, steepest, False)
    return Curve([0] + list(told.start), told.period, told.growth)


class Breaches(Case):
    def test_traffics(self):
        lots = Lots(211)
        broken = 0
        for _ in range(600):
            traffic, promise = some_traffic(lots), some_curve(lots)
            wanted = plain_breach(plain_row(traffic), promise)
            broken += wanted is not None
            for thing in (traffic, tuple(traffic)):
                self.assertEqual(breach(thing, promise), wanted)
                self.assertIs(keeps(thing, promise), wanted is None)
        self.assertGreater(broken, 100)
        self.assertLess(broken, 500)

    def test_endless_traffics(self):
        lots = Lots(212)
        late_ones = 0
        for _ in range(500):
            endless, promise = some_endless(lots), some_curve(lots)
            if lots.below(2):
                promise = raised(promise, lots.below(25))
            wanted = plain_breach(numbers(endless, 260), promise)
            told = breach(endless, promise)
            if wanted is None and told is not None:
                self.assertGreaterEqual(told[1], 260)
            else:
                self.assertEqual(told, wanted)
            self.assertIs(keeps(endless, promise), told is None)
            late_ones += told is not None and told[1] > 25
        self.assertGreater(late_ones, 5)

    def test_a_traffic_and_its_curve(self):
        lots = Lots(213)
        for _ in range(150):
            traffic, promise = some_traffic(lots), some_curve(lots)
            self.assertEqual(breach(curve_of(traffic), promise), breach(traffic, promise))

    def test_far_breaches(self):
        # The traffic grows by 1 each beat, and BIG more letters are let.
        self.assertEqual(breach(line(0, 1, 1), flat(BIG)), (0, BIG + 1))
        self.assertEqual(breach(line(0, 2, 1), line(BIG, 1, 1)), (0, BIG + 1))
        self.assertIsNone(breach(line(0, 1, 1), line(BIG, 1, 1)))
        self.assertEqual(breach(line(0, 7, 60), line(BIG, 6, 59)), self.first_far(7, 60, 6, 59))
        # Letters come at each third beat alone, so that the stretch begins right ahead of one.
        self.assertEqual(breach(Curve([0, 0, 0], 3, 3), flat(BIG)), (2, 2 + 3 * (BIG // 3) + 1))
        told = breach(sum_of(line(0, 1, 1), Curve([0, 0, 5], 1, 0)), flat(100))
        self.assertEqual(told, plain_breach([0, 1] + [t + 5 for t in range(2, 200)], flat(100)))
        huge = times(line(0, BIG, 1), BIG)
        self.assertIsNone(breach(huge, huge))
        self.assertEqual(breach(huge, times(huge, 0)), (0, 1))

    def first_far(self, up, beats, most, period):
        """The first breach of line(0, up, beats) against line(BIG, most, period), step by step near it."""
        low, high = 1, 10 ** 14
        gain = up * period - most * beats
        low = (BIG - 2) * beats * period // gain
        for end in range(low, high):
            for begin in range(beats - 1, -1, -1):
                came = up * end // beats - up * begin // beats
                if came > BIG + most * (end - begin) // period:
                    return begin, end
        return None

    def test_promises_with_none(self):
        three = Curve([0, 1, 2, None], 1, 0)
        self.assertIsNone(breach(line(0, 1, 1), three))
        self.assertEqual(breach(later(line(0, 2, 1), 50), three), (50, 51))
        self.assertEqual(breach(Curve([0] * 9 + [1, 2, 3], 4, 3), three), plain_breach(
            numbers(Curve([0] * 9 + [1, 2, 3], 4, 3), 90), three))
        for promise in (flat(None), unit(), Curve([7, None], 1, 0)):
            self.assertIsNone(breach(line(5, 9, 1), promise))
            self.assertIsNone(breach([10 ** 30] * 3, promise))
        self.assertEqual(breach([5, 6], Curve([0, 5, None], 1, 0)), (1, 2))

    def test_the_value_at_beat_0_means_nothing(self):
        for first in (0, 1):
            promise = Curve([first, 1, 1, 2], 2, 1)
            self.assertEqual(breach([0, 1, 0, 1, 1], promise), (3, 5))
            self.assertIsNone(breach([0, 0, 0], promise))

    def test_the_greatest_begin(self):
        self.assertEqual(breach([1, 0, 0, 1], Curve([0, 1, 1, 1, 1, 1], 1, 0)), (0, 4))
        self.assertEqual(breach([1, 0, 0, 2], flat(1)), (3, 4))
        self.assertEqual(breach([1, 1, 1], line(0, 0, 1)), (0, 1))

    def test_by_hand(self):
        promise = line(2, 1, 2)
        self.assertIsNone(breach([2, 0, 1, 1], promise))
        self.assertEqual(breach([2, 1, 1], promise), (0, 3))

    def test_long_ones(self):
        self.assertIsNone(breach([1] * 1000, line(0, 1, 1)))
        self.assertEqual(breach([1] * 999 + [2], line(0, 1, 1)), (999, 1000))
        self.assertEqual(breach([0] * 999 + [2], line(0, 1, 1)), (999, 1000))
        self.assertIsNone(breach(long_curve(4000), flat(5)))
        self.assertEqual(breach(long_curve(4000), flat(4)), (3996, 3999))
        self.assertEqual(breach(later(line(0, 1, 1), 3999), later(flat(BIG), 2)), (3999, 4000))


class Hearts(Case):
    def test_exactly_if_below_the_folding(self):
        lots = Lots(214)
        kept = 0
        for _ in range(250):
            promise = some_curve(lots)
            traffic = some_endless(lots) if lots.below(2) else some_traffic(lots)
            told = keeps(traffic, promise)
            self.assertIs(told, is_below(curve_of(traffic), folding(curve_of(traffic), promise)))
            kept += told
        self.assertGreater(kept, 30)

    def test_closures_keep_their_promises(self):
        lots = Lots(215)
        for _ in range(200):
            promise = some_curve(lots)
            if value(promise, 1) is None:
                continue
            closed = closure(promise)
            self.assertIsNone(breach(closed, promise))
            row = numbers(closed, 20)
            endless = some_endless(lots)
            if keeps(endless, promise):
                self.assertTrue(is_below(endless, closed))
            more = list(first_beats(closed, 12))
            place = lots.below(12)
            more[place] += 1
            self.assertIsNotNone(breach(more, promise))
            self.assertEqual(breach(more, promise), plain_breach(plain_row(more), promise))
            self.assertEqual(plain_row(first_beats(closed, 19)), row)


class Wrong(Case):
    def test_refuses(self):
        for call in (breach, keeps):
            for thing in (None, 0, [0, 1], "promise"):
                self.refuses(BadCurve, call, None, thing, part=None)
            for thing in NO_TRAFFICS:
                self.refuses(BadTraffic, call, thing, flat(1), part="traffic")
                self.refuses(BadTraffic, call, thing, flat(None), part="traffic")

    def test_common_periods(self):
        # 59 * 61 is 3599, 59 * 68 is 4012; a closure of one part has its length as its period.
        def stair(beats, more):
            return closure(Curve([0] + [more] * beats + [None], 1, 0))
        self.assertEqual((stair(59, 1).period, stair(68, 1).period), (59, 68))
        for call in (breach, keeps):
            self.too_many(4000, call, stair(59, 1), stair(68, 9))
            self.too_many(4000, call, stair(68, 1), stair(59, 1))
        self.assertIsNone(breach(stair(61, 1), stair(59, 1)))
        self.assertIsNone(breach(stair(40, 1), stair(40, 1)))
        self.assertIsNone(breach(stair(80, 1), raised(stair(50, 1), 9)))
        self.assertIsNone(breach(stair(398, 1), stair(1, 1)))
        # 32 * 125 is 4000, just not too many.
        self.assertIsNone(breach(stair(125, 1), stair(32, 1)))
        self.too_many(4000, breach, stair(127, 1), stair(32, 1))
        self.assertIsNone(breach(stair(127, 1), Curve([0, 5, None], 1, 0)))
        # A traffic's period is 1.
        self.assertIsNone(breach([1], stair(398, 1)))
        self.assertIsNone(breach(late(3, 1, 60), stair(59, 9)))


if __name__ == "__main__":
    unittest.main()
