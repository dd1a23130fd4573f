"""[37]: shaping again costs nothing."""

import unittest

from worstwait.closures import closure
from worstwait.curves import Curve, flat, late, line
from worstwait.errors import BadCurve
from worstwait.foldings import folding, unit
from worstwait.joined import is_below, later
from worstwait.reshapings import shaping_cost
from worstwait.ways import longest_across, most_above
from tests.plain import Case, Lots, some_curve
from tests.test_closures import two_parts


class Costs(Case):
    def test_both_pairs(self):
        lots = Lots(521)
        for _ in range(150):
            promise, shaper, server = some_curve(lots), some_curve(lots), some_curve(lots)
            closed, behind = closure(promise), folding(closure(shaper), server)
            told = shaping_cost(promise, shaper, server)
            self.assertEqual(told, tuple((longest_across(closed, one)[0], most_above(closed, one)[0])
                                         for one in (server, behind)))
            self.assertTrue(type(told) is tuple and all(type(pair) is tuple for pair in told))

    def test_it_costs_nothing_exactly_if_within(self):
        lots = Lots(522)
        seen = {True: 0, False: 0}
        for _ in range(200):
            promise, shaper = some_curve(lots, 4, 2), some_curve(lots, 4, 3)
            inside = is_below(closure(promise), shaper)
            one, two = shaping_cost(promise, shaper, unit())
            self.assertIs(one == two, inside)
            seen[inside] += 1
            if inside:
                for _ in range(5):
                    one, two = shaping_cost(promise, shaper, some_curve(lots))
                    self.assertEqual(one, two)
        self.assertGreater(min(seen.values()), 30)

    def test_by_hand(self):
        self.assertEqual(shaping_cost(line(3, 1, 1), line(3, 1, 1), late(2, 2, 1)), ((3, 5), (3, 5)))
        # What comes in a burst of 4 goes out of the shaper by ones.
        self.assertEqual(shaping_cost(line(3, 1, 1), line(0, 1, 1), line(0, 9, 1)), ((0, 0), (3, 3)))
        self.assertEqual(shaping_cost(line(3, 1, 1), flat(0), line(0, 9, 1))[1], (None, None))
        self.assertEqual(shaping_cost(flat(None), flat(None), line(0, 9, 1)), ((None, None), (None, None)))
        self.assertEqual(shaping_cost(flat(None), flat(None), flat(None)), ((0, 0), (0, 0)))

    def test_too_many(self):
        stair = closure(Curve([0] + [1] * 67 + [None], 1, 0))
        self.too_many(4000, shaping_cost, stair, flat(1), line(0, 1, 60))
        self.too_many(400, shaping_cost, later(flat(1), 400), flat(1), flat(1))
        self.too_many(400, shaping_cost, flat(1), later(flat(1), 400), flat(1))
        self.too_many(4000, shaping_cost, flat(1), two_parts(64, 10), flat(1))

    def test_refuses(self):
        for thing in (None, 0, [0, 1], "curve"):
            self.refuses(BadCurve, shaping_cost, thing, flat(1), flat(1), part=None)
            self.refuses(BadCurve, shaping_cost, flat(1), thing, flat(1), part=None)
            self.refuses(BadCurve, shaping_cost, later(flat(1), 400), flat(1), thing, part=None)


if __name__ == "__main__":
    unittest.main()
