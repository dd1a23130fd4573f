"""[56]: loops of servers."""

import unittest

from worstwait.closures import closure
from worstwait.curves import Curve, flat, late, line
from worstwait.errors import BadCurve, BadNumber, BadSystem
from worstwait.foldings import unit
from worstwait.joined import later, raised, times
from worstwait.loops import loop_above, loop_gap
from worstwait.promises import keeps
from worstwait.systems import System, solved
from worstwait.throughs import shift
from worstwait.traffics import traffic_of
from tests.plain import INF, NO_NUMBERS, Case, Lots, long_curve, numbers, some_curve
from tests.test_closures import plain_closure
from tests.test_systems import NO_SYSTEMS, small_curve, small_system, some_system

BIG = 10 ** 9


def come_through(system, to, joint, came):
    """What comes through at each beat of a row, by the rule again and again."""
    bases = [flat(None)] * len(system.bases)
    rows = [[INF] * len(came) for _ in bases]
    while True:
        told = [list(came) if place == joint else [INF] * len(came) for place in range(len(bases))]
        for one, source, curve in system.arcs:
            f, x = numbers(curve, len(came)), rows[source]
            for t in range(len(came)):
                told[one][t] = min(told[one][t], min(f[s] + x[t - s] for s in range(t + 1)))
        if told == rows:
            return told[to]
        rows = told


def gaps(system, to, joint, came):
    """How much of a row did not come through, at each beat."""
    told = []
    for mine, its in zip(came, come_through(system, to, joint, came)):
        told.append(0 if its == INF else max(0, mine - its))
    return told


def some_loop(lots):
    system = some_system(lots, 3)
    many = len(system.bases)
    return system, lots.below(many), lots.below(many)


class Loops(Case):
    def test_the_closure_comes_to_it(self):
        lots = Lots(551)
        seen = {True: 0, False: 0}
        for _ in range(150):
            (system, to, joint), promise = some_loop(lots), some_curve(lots, 5, 3)
            found = loop_gap(promise, system, to, joint)
            came = plain_closure(promise, 60)
            told = gaps(system, to, joint, [10 ** 6 * (t > 0) if one == INF else one for t, one in enumerate(came)])
            if found is None:
                self.assertGreater(max(told), max(told[:30]) if came[1] != INF else 10 ** 5)
            else:
                self.assertEqual(max(told), found)
            seen[found is None] += 1
            for number in (0, 1, 2, 5, lots.below(12)):
                above = [t for t, gap in enumerate(told) if gap > number]
                beat = loop_above(promise, system, to, joint, number)
                self.assertIs(beat is None, found is not None and found <= number)
                if above or (beat is not None and beat < 60):
                    self.assertEqual(beat, above[0])
        self.assertGreater(min(seen.values()), 30)

    def test_no_traffic_comes_to_more(self):
        lots = Lots(552)
        for _ in range(80):
            (system, to, joint), promise = some_loop(lots), some_curve(lots, 5, 3)
            came, most = [0], numbers(promise, 16)
            for t in range(1, 16):
                room = min(most[t - s] + came[s] for s in range(t)) - came[-1]
                came.append(came[-1] + lots.of([0, 5 if room == INF else room, lots.below(3) if room > 1 else 0]))
            self.assertTrue(keeps(traffic_of(came), promise))
            told = gaps(system, to, joint, came)
            found = loop_gap(promise, system, to, joint)
            self.assertTrue(found is None or max(told) <= found)
            for t, gap in enumerate(told):
                if gap > 0:
                    self.assertLessEqual(loop_above(promise, system, to, joint, gap - 1), t)

    def test_as_solved_tells(self):
        # The closure of the promise as the base of the joint.
        lots = Lots(553)
        for _ in range(40):
            (system, to, joint), promise = some_loop(lots), some_curve(lots, 5, 3, False)
            bases = [closure(promise) if place == joint else flat(None) for place in range(len(system.bases))]
            row = solved(System(bases, system.arcs))[to]
            came = numbers(closure(promise), 200)
            told = max(0 if its == INF else max(0, mine - its) for mine, its in zip(came, numbers(row, 200)))
            found = loop_gap(promise, system, to, joint)
            self.assertTrue(found is None or found == told)

    def test_by_hand(self):
        # What goes to joint 1 comes 2 beats later; a way round 1 lets all through by 3 each 4 beats.
        system = System([flat(0)] * 2, [(1, 0, late(2, 5, 1)), (1, 1, Curve([3] * 5 + [None], 1, 0))])
        self.assertEqual(loop_gap(line(2, 0, 1), system, 1, 0), 2)
        self.assertEqual(loop_gap(line(2, 3, 4), system, 1, 0), 3)
        self.assertEqual(loop_above(line(2, 3, 4), system, 1, 0, 0), 1)
        self.assertEqual(loop_above(line(2, 3, 4), system, 1, 0, 2), 2)
        self.assertIsNone(loop_above(line(2, 3, 4), system, 1, 0, 3))
        self.assertIsNone(loop_gap(line(2, 4, 5), system, 1, 0))
        self.assertEqual(loop_gap(line(2, 3, 4), system, 0, 0), 0)
        # Nothing leads from 1 to 0: what came through is without end.
        self.assertEqual(loop_gap(flat(None), system, 0, 1), 0)
        self.assertIsNone(loop_above(flat(None), system, 0, 1, 0))
        self.assertIsNone(loop_gap(flat(None), system, 1, 0))
        self.assertEqual(loop_above(flat(None), system, 1, 0, BIG), 1)
        self.assertEqual(loop_above(flat(None), System([flat(0)], [(0, 0, unit())]), 0, 0, 0), None)

    def test_far_behind(self):
        system = System([flat(0)] * 2, [(1, 0, line(0, 58, 59))])
        self.assertEqual(loop_above(line(1, 59, 60), system, 1, 0, BIG),
                         next(t for t in range(3540 * BIG - 7080, 3540 * BIG + 7080)
                              if 1 + 59 * t // 60 - 58 * t // 59 > BIG))
        self.assertIsNone(loop_gap(line(1, 59, 60), system, 1, 0))

    def test_too_many(self):
        system = System([flat(0)] * 2, [(0, 0, long_curve(500)), (1, 0, shift(0, 1))])
        self.too_many(400, loop_gap, flat(1), system, 0, 0)
        self.too_many(400, loop_above, flat(1), system, 0, 0, 5)
        self.too_many(400, loop_gap, later(flat(1), 400), System([flat(1)], []), 0, 0)
        self.assertEqual(loop_gap(times(flat(1), BIG), System([flat(1)] * 2, [(1, 0, raised(flat(0), 5))]), 1, 0),
                         BIG - 5)

    def test_refuses(self):
        system = System([flat(1), flat(2)], [])
        for call, more in ((loop_gap, ()), (loop_above, (-1,))):
            for thing in (None, 0, [0, 1], "curve"):
                self.refuses(BadCurve, call, thing, None, -1, -1, *more, part=None)
            for thing in NO_SYSTEMS:
                self.refuses(BadSystem, call, flat(1), thing, -1, -1, *more, part=None)
            for wrong in NO_NUMBERS + (-1, 2):
                self.refuses(BadNumber, call, flat(1), system, wrong, -1, *more, part="to")
                self.refuses(BadNumber, call, later(flat(1), 400), system, 0, wrong, *more, part="joint")
        for wrong in NO_NUMBERS + (-1, BIG + 1):
            self.refuses(BadNumber, loop_above, later(flat(1), 400), system, 0, 1, wrong, part="number")


class Small(Case):
    def test_where_all_is_told(self):
        """Where Part 5 says that TooMany does not come."""
        lots = Lots(554)
        for turn in range(300):
            system = small_system(lots, turn)
            to, joint, promise = lots.below(len(system.bases)), lots.below(len(system.bases)), small_curve(lots)
            found = loop_gap(promise, system, to, joint)
            beat = loop_above(promise, system, to, joint, lots.below(30))
            self.assertTrue(found is None or beat is None or found > 0)


if __name__ == "__main__":
    unittest.main()
