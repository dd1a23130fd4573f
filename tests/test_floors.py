"""[57], [58]: floors of systems, and what is slower."""

import unittest
from itertools import permutations

from worstwait.curves import Curve, flat, late, line
from worstwait.errors import BadNumber, BadSystem
from worstwait.floors import floor_of, is_floor, is_slower, slower
from worstwait.foldings import unit
from worstwait.joined import later, raised
from worstwait.systems import System, solved
from worstwait.throughs import shift
from tests.plain import INF, NO_NUMBERS, Case, Lots, numbers
from tests.test_systems import NO_SYSTEMS, some_system

BIG = 10 ** 9


def holds(curve, steps, beats, more, far=150):
    """Whether beats * f(t) + more is at least steps * t at all beats; what is so for many beats may still fail."""
    row = numbers(curve, far)
    if row[-1] != INF and curve.growth * beats < steps * curve.period:
        return False
    return all(one == INF or beats * one + more >= steps * t for t, one in enumerate(row))


def plain_floor(system, steps, beats, floor):
    if not all(holds(base, steps, beats, floor[joint]) for joint, base in enumerate(system.bases)):
        return False
    return all(holds(curve, steps, beats, floor[to] - floor[source]) for to, source, curve in system.arcs)


def plain_slower(system, steps, beats, thing):
    if thing[0] in ("base", "arc"):
        curve = system.bases[thing[1]] if thing[0] == "base" else dict((arc[:2], arc[2]) for arc in system.arcs)[thing[1:]]
        return curve.start[-1] is not None and curve.growth * beats < steps * curve.period
    curves = {arc[:2]: arc[2] for arc in system.arcs}
    total, gone = 0, 0
    for to, source, beat in thing[1]:
        total += numbers(curves[to, source], beat + 1)[beat]
        gone += beat
    return beats * total < steps * gone


def has_slow_ring(system, steps, beats, far=60):
    """Whether some ring, with beats up to far, is slower, by trying all rings."""
    curves = {arc[:2]: arc[2] for arc in system.arcs}
    for many in range(1, len(system.bases) + 1):
        for ring in permutations(range(len(system.bases)), many):
            links = list(zip(ring, ring[1:] + ring[:1]))
            if all(link in curves for link in links):
                worst = []
                for link in links:
                    row = [steps * t - beats * one for t, one in enumerate(numbers(curves[link], far)) if one != INF]
                    worst.append(max(row) if row else -INF)
                if sum(worst) > 0:
                    return True
    return False


def fast_system(lots):
    """A system of which little is slow: what never ends, and rings that cost something."""
    system = some_system(lots, 3)
    bases = [base if lots.below(3) else flat(None) for base in system.bases]
    return System(bases, [(to, source, raised(curve, lots.below(4))) for to, source, curve in system.arcs])


class Floors(Case):
    def test_as_told(self):
        lots = Lots(631)
        seen = {}
        for _ in range(800):
            system, steps, beats = fast_system(lots), lots.below(5), 1 + lots.below(4)
            floor, found = floor_of(system, steps, beats), slower(system, steps, beats)
            self.assertIs(floor is None, found is not None)
            if floor is not None:
                self.assertTrue(type(floor) is tuple and len(floor) == len(system.bases) and min(floor) >= 0)
                self.assertTrue(plain_floor(system, steps, beats, floor))
                self.assertIs(is_floor(system, steps, beats, floor), True)
                for x, least in zip(solved(system), floor):
                    self.assertTrue(all(beats * one + least >= steps * t for t, one in enumerate(numbers(x, 100))))
                self.assertFalse(has_slow_ring(system, steps, beats))
            else:
                self.assertTrue(plain_slower(system, steps, beats, found))
                self.assertIs(is_slower(system, steps, beats, found), True)
                self.assertTrue(type(found) is tuple)
            kind = None if found is None else found[0]
            seen[kind] = seen.get(kind, 0) + 1
        self.assertEqual(len(seen), 4)
        self.assertGreater(min(seen.values()), 10)

    def test_is_floor(self):
        lots = Lots(632)
        seen = {True: 0, False: 0}
        for _ in range(400):
            system, steps, beats = fast_system(lots), lots.below(3), 1 + lots.below(4)
            floor = tuple(lots.below(30) for _ in system.bases)
            wanted = plain_floor(system, steps, beats, floor)
            self.assertIs(is_floor(system, steps, beats, floor), wanted)
            seen[wanted] += 1
        self.assertGreater(min(seen.values()), 50)

    def test_any_value(self):
        system = System([flat(None)] * 2, [(0, 1, flat(0))])
        self.assertIs(is_floor(system, 0, 1, (0, 0)), True)
        self.assertIs(is_floor(system, 0, 1, (10 ** 30, 5)), True)
        for thing in (None, [0, 0], (0,), (0, 0, 0), (True, 0), (0, False), (-1, 0), (0, 0.0), "00", {0: 0, 1: 0}, (0, None),
                      (0, 1), 0, ()):
            self.assertIs(is_floor(system, 0, 1, thing), False)

    def test_by_hand(self):
        system = System([line(0, 3, 1)], [(0, 0, raised(late(2, 1, 1), 3))])
        self.assertIs(is_slower(system, 2, 1, ("ring", ((0, 0, 3),))), True)
        self.assertIsNone(floor_of(system, 2, 1))
        self.assertIsNone(slower(system, 1, 1))
        self.assertIs(is_floor(system, 1, 1, (0,)), True)
        self.assertIsNotNone(floor_of(system, 1, 1))

    def test_edges(self):
        one = System([flat(None)], [])
        for steps, beats in ((0, 1), (BIG, 60), (BIG, 1), (0, 60)):
            self.assertIsNone(slower(one, steps, beats))
            self.assertIs(is_floor(one, steps, beats, floor_of(one, steps, beats)), True)
        two = System([line(0, BIG, 1)], [(0, 0, Curve([0, BIG], 1, BIG))])
        self.assertIsNone(slower(two, BIG, 1))
        three = System([late(300, BIG, 1)], [])
        self.assertIs(is_floor(three, BIG, 1, (300 * BIG,)), True)
        self.assertIs(is_floor(three, BIG, 1, (300 * BIG - 1,)), False)
        self.assertEqual(slower(System([line(0, 1, 60)], []), 1, 59), ("base", 0))
        self.assertIsNone(slower(System([line(0, 1, 60)], []), 1, 60))
        # Two arcs make the ring, one of them for itself is fast enough.
        ring = System([flat(None)] * 6, [((k + 1) % 6, k, shift(k, 1)) for k in range(6)])
        self.assertIsNone(slower(ring, 15, 6))
        found = slower(ring, 16, 6)
        self.assertEqual((found[0], len(found[1])), ("ring", 6))
        self.assertIs(is_slower(ring, 16, 6, found), True)
        self.assertIs(is_slower(ring, 15, 6, found), False)
        longer = System([flat(None)], [(0, 0, later(shift(2, 300), 700))])
        self.assertEqual(slower(longer, 1, 1), ("ring", ((0, 0, 1000),)))
        self.assertIsNone(slower(System([flat(None)], [(0, 0, flat(None))]), BIG, 1))
        self.assertEqual(slower(System([flat(None)], [(0, 0, unit())]), BIG, 1), None)

    def test_refuses(self):
        system = System([flat(1)], [])
        for call, more in ((is_floor, (None,)), (floor_of, ()), (slower, ()), (is_slower, (None,))):
            for thing in NO_SYSTEMS:
                self.refuses(BadSystem, call, thing, -1, 0, *more, part=None)
            for wrong in NO_NUMBERS + (-1, BIG + 1):
                self.refuses(BadNumber, call, system, wrong, 0, *more, part="steps")
            for wrong in NO_NUMBERS + (0, -1, 61):
                self.refuses(BadNumber, call, system, 0, wrong, *more, part="beats")


class Slower(Case):
    def test_is_slower_of_rings(self):
        lots = Lots(633)
        seen = {True: 0, False: 0}
        for _ in range(1500):
            system, steps, beats = fast_system(lots), lots.below(5), 1 + lots.below(4)
            curves = {arc[:2]: arc[2] for arc in system.arcs}
            joints = list(range(len(system.bases)))
            ring = []
            for _ in range(1 + lots.below(len(joints))):
                ring.append(joints.pop(lots.below(len(joints))))
            links = list(zip(ring, ring[1:] + ring[:1]))
            ways = tuple(link + (lots.below(8),) for link in links)
            good = all(link in curves and numbers(curves[link], 8)[way[2]] != INF for link, way in zip(links, ways))
            wanted = good and plain_slower(system, steps, beats, ("ring", ways))
            self.assertIs(is_slower(system, steps, beats, ("ring", ways)), wanted)
            seen[wanted] += 1
        self.assertGreater(min(seen.values()), 40)

    def test_is_slower_of_curves(self):
        lots = Lots(634)
        for _ in range(200):
            system, steps, beats = some_system(lots, 3), lots.below(5), 1 + lots.below(4)
            for joint in range(len(system.bases)):
                wanted = plain_slower(system, steps, beats, ("base", joint))
                self.assertIs(is_slower(system, steps, beats, ("base", joint)), wanted)
            for to, source, _ in system.arcs:
                wanted = plain_slower(system, steps, beats, ("arc", to, source))
                self.assertIs(is_slower(system, steps, beats, ("arc", to, source)), wanted)

    def test_any_value(self):
        system = System([flat(0), flat(None)], [(1, 0, flat(0)), (0, 1, shift(0, 3)), (0, 0, shift(1, 4))])
        good = ("ring", ((0, 1, 3), (1, 0, 10 ** 20)))
        for thing in (("base", 0), ("arc", 1, 0), good, ("ring", ((1, 0, 1), (0, 1, 0))), ("ring", ((0, 0, 4),))):
            self.assertIs(is_slower(system, 1, 1, thing), True)
        for thing in (None, 0, "base", (), ("base",), ["base", 0], ("base", 1), ("base", 2), ("base", -1), ("base", True),
                      ("base", 0, 0), ("base", False), ("arc", 0, 1), ("arc", 1), ("arc", 1, 1), ("arc", True, 0),
                      ("arc", 1, 0, 0), ("arc", 2, 0), ("ring",), ("ring", ()), ("ring", [(0, 0, 4)]), ("ring", ([0, 0, 4],)),
                      ("ring", ((0, 0, 5),)), ("ring", ((0, 0, True),)), ("ring", ((0, 0, -1),)), ("ring", ((0, 0, 1),)),
                      ("ring", ((0, 0),)), ("ring", ((0, 0, 4, 4),)), ("ring", ((False, 0, 4),)), ("ring", ((1, 1, 4),)),
                      ("ring", ((0, 0, 4), (0, 0, 4))), ("ring", ((0, 1, 3),)), ("ring", ((0, 1, 3), (0, 0, 4))),
                      ("ring", ((1, 0, 5), (0, 1, 4))), ("ring", ((0, 1, 3), (1, 0, None))), good + (1,),
                      ("ring", ((0, 1, 3), (1, 0, 2), (0, 1, 3), (1, 0, 2))), ("rings", ((0, 0, 4),)), (0, 0),
                      ("ring", ((0, 0, 4.0),)), ("ring", (3,)), ("ring", ("abc",)), ("ring", 3)):
            self.assertIs(is_slower(system, 1, 1, thing), False)


if __name__ == "__main__":
    unittest.main()
