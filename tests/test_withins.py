"""[32]: promises within one another."""

import unittest
from itertools import product

from worstwait.closures import closure
from worstwait.curves import Curve, flat, line
from worstwait.errors import BadCurve
from worstwait.foldings import unit
from worstwait.joined import is_below, later
from worstwait.joints import either, joint
from worstwait.promises import keeps
from worstwait.traffics import is_traffic
from worstwait.withins import are_alike, is_within, traffic_between
from tests.plain import Case, Lots, numbers, some_curve
from tests.test_closures import plain_closure, two_parts
from tests.test_promises import plain_breach, plain_row

BIG = 10 ** 9
NO_CURVES = (None, 0, [0, 1], "curve", True)


def plain_between(promise, other, beats=5, most=9):
    """The beats and the letters of a shortest traffic that keeps the one alone, by trying all of them."""
    for many in range(1, beats + 1):
        told = [sum(one) for one in product(range(most), repeat=many)
                if sum(one) < most and plain_breach(plain_row(one), promise) is None
                and plain_breach(plain_row(one), other) is not None]
        if told:
            return many, min(told)
    return None


class Withins(Case):
    def test_as_told(self):
        lots = Lots(601)
        seen = {True: 0, False: 0}
        for _ in range(300):
            one, two = some_curve(lots), some_curve(lots)
            rows = plain_closure(one, 200), numbers(two, 200)
            inside = all(mine <= its for mine, its in zip(*rows))
            self.assertIs(is_within(one, two), inside)
            self.assertIs(are_alike(one, two), is_within(one, two) and is_within(two, one))
            self.assertIs(are_alike(one, two), closure(one) == closure(two))
            self.assertTrue(are_alike(one, closure(one)))
            self.assertIs(joint((one, two)) == closure(one), inside)
            self.assertIs(either((one, two)) == closure(two), inside)
            seen[inside] += 1
        self.assertGreater(min(seen.values()), 30)

    def test_traffics_tell_them_apart(self):
        lots = Lots(602)
        told = 0
        for _ in range(300):
            one, two = some_curve(lots), some_curve(lots)
            traffic = traffic_between(one, two)
            self.assertIs(traffic is None, is_within(one, two))
            if traffic is not None:
                told += 1
                self.assertTrue(type(traffic) is tuple and is_traffic(traffic))
                self.assertTrue(keeps(traffic, one))
                self.assertFalse(keeps(traffic, two))
        self.assertGreater(told, 100)

    def test_the_fewest_beats_and_letters(self):
        lots = Lots(603)
        told = 0
        for _ in range(150):
            one, two = some_curve(lots, 4, 2), some_curve(lots, 4, 2)
            traffic = traffic_between(one, two)
            wanted = plain_between(one, two)
            if wanted is not None or (traffic is not None and len(traffic) <= 5 and sum(traffic) < 9):
                self.assertEqual((len(traffic), sum(traffic)), wanted)
                told += 1
        self.assertGreater(told, 50)

    def test_by_hand(self):
        self.assertTrue(is_within(flat(2), line(1, 1, 1)))
        self.assertFalse(is_within(line(1, 1, 1), flat(2)))
        self.assertIsNone(traffic_between(flat(2), line(1, 1, 1)))
        self.assertIn(traffic_between(line(1, 1, 1), flat(2)), ((2, 1), (1, 2)))
        # Beat 0 of a promise means nothing.
        self.assertTrue(are_alike(flat(2), Curve([0, 2], 1, 0)))
        self.assertTrue(is_within(flat(2), Curve([0, 2], 1, 0)))
        # Three letters in two beats are never come to, if one beat has at most one.
        self.assertTrue(are_alike(Curve([0, 1, 3], 1, 1), line(0, 1, 1)))

    def test_nones(self):
        self.assertTrue(is_within(flat(None), unit()))
        self.assertTrue(are_alike(flat(None), unit()))
        self.assertTrue(is_within(unit(), Curve([5, None], 1, 0)))
        self.assertEqual(traffic_between(unit(), flat(7)), (8,))
        self.assertEqual(traffic_between(unit(), Curve([0, 7, None], 1, 0)), (8,))
        self.assertIsNone(traffic_between(flat(7), unit()))
        # What comes by 3 in a beat comes to all that is without end from beat 2 on.
        self.assertTrue(is_within(Curve([0, 3, None], 1, 0), Curve([0, 3, None], 1, 0)))
        self.assertTrue(are_alike(Curve([0, 3, None], 1, 0), line(0, 3, 1)))
        self.assertEqual(traffic_between(Curve([0, 3, None], 1, 0), flat(4)), (3, 2))

    def test_1000_beats_and_one_more(self):
        traffic = traffic_between(line(0, 1, 1), flat(999))
        self.assertEqual((len(traffic), sum(traffic)), (1000, 1000))
        self.too_many(1000, traffic_between, line(0, 1, 1), flat(1000))
        self.assertFalse(is_within(line(0, 1, 1), flat(1000)))
        self.assertEqual(traffic_between(line(0, BIG // 3, 1), flat(BIG)), (BIG // 3,) * 3 + (2,))

    def test_too_many(self):
        for call in (is_within, are_alike, traffic_between):
            self.too_many(400, call, later(flat(1), 400), flat(1))
            self.too_many(4000, call, two_parts(64, 10), flat(1))
        stair = Curve([0] + [1] * 67 + [None], 1, 0)
        for call in (is_within, traffic_between):
            self.too_many(4000, call, stair, line(1, 1, 60))
            call(line(1, 1, 60), stair)
            call(flat(1), later(flat(1), 400))
        # are_alike raises what both closures raise, nothing else.
        self.assertFalse(are_alike(stair, line(1, 1, 60)))
        self.too_many(400, are_alike, flat(1), later(flat(1), 400))

    def test_refuses(self):
        for thing in NO_CURVES:
            for call in (is_within, are_alike, traffic_between):
                self.refuses(BadCurve, call, thing, flat(1), part=None)
                self.refuses(BadCurve, call, later(flat(1), 400), thing, part=None)

    def test_endless_traffics(self):
        lots = Lots(604)
        for _ in range(60):
            one, two = some_curve(lots, 5, 3), some_curve(lots, 5, 3)
            closed = closure(one)
            if closed.start[-1] is not None:
                self.assertTrue(keeps(closed, one))
                self.assertIs(keeps(closed, two), is_within(one, two))
                self.assertIs(is_below(closed, two), is_within(one, two))


if __name__ == "__main__":
    unittest.main()
