"""[50], [51]: systems and their solutions."""

import unittest

from worstwait.curves import Curve, flat, late, line
from worstwait.errors import BadSystem
from worstwait.foldings import unit
from worstwait.joined import is_below, raised
from worstwait.systems import System, is_one, is_solution, least_solved, solved, still_joints
from worstwait.throughs import shift
from tests.plain import INF, Case, Lots, long_curve, numbers, some_curve

BIG = 10 ** 9
NO_SYSTEMS = (None, 0, [flat(1)], ((flat(1),), ()), "system")


def some_system(lots, joints=4, longest=4, steepest=4):
    """A system with rings that take no beat, rings that add nothing, and arcs from a joint to itself."""
    many = 1 + lots.below(joints)
    arcs = []
    for to in range(many):
        for source in range(many):
            if lots.below(2):
                curve = some_curve(lots, longest, steepest)
                if lots.below(3) == 0:
                    curve = shift(lots.below(3), lots.below(3))
                arcs.append((to, source, curve))
    bases = [lots.of([some_curve(lots, longest, steepest), flat(None)]) for _ in range(many)]
    return System(bases, arcs)


def plain_rule(system, rows):
    """What the rule tells of rows of numbers, beat by beat."""
    many = len(rows[0])
    told = [numbers(base, many) for base in system.bases]
    for to, source, curve in system.arcs:
        f, x = numbers(curve, many), rows[source]
        for t in range(many):
            told[to][t] = min(told[to][t], min(f[s] + x[t - s] for s in range(t + 1)))
    return told


def plain_greatest(system, many):
    """From above: the rule again and again, beginning without end, until nothing changes."""
    rows = [[INF] * many for _ in system.bases]
    while True:
        further = plain_rule(system, rows)
        if further == rows:
            return rows
        rows = further


def plain_least(system, many, most=2000):
    """From below: the rule again and again, beginning with 0; what passes most grows without end."""
    rows = [[0] * many for _ in system.bases]
    while True:
        further = [[INF if one > most else one for one in row] for row in plain_rule(system, rows)]
        if further == rows:
            return rows
        rows = further


def plain_still(system):
    """Joints from which a way along arcs of 0 at beat 0 leads back, followed arc by arc."""
    steps = {(source, to) for to, source, curve in system.arcs if numbers(curve, 1) == [0]}
    told = []
    for joint in range(len(system.bases)):
        seen, left = set(), [joint]
        while left:
            here = left.pop()
            for source, to in steps:
                if source == here and to not in seen:
                    seen.add(to)
                    left.append(to)
        if joint in seen:
            told.append(joint)
    return tuple(told)


def small_row(lots):
    told = [lots.of([0, lots.below(13)])]
    while len(told) < 1 + lots.below(4):
        told.append(told[-1] + lots.below(13 - told[-1]))
    return told


def small_curve(lots):
    """At most 4 values, numbers and growths of at most 12."""
    told = small_row(lots)
    if lots.below(3) == 0:
        return Curve(told[1:] + [None], 1, 0)
    period = 1 + lots.below(len(told))
    least = told[-1] - told[len(told) - period]
    return Curve(told, period, least + lots.below(13 - least))


def of_period_1(lots):
    told = small_row(lots)
    return Curve(told[1:] + [None], 1, 0) if lots.below(3) == 0 else Curve(told, 1, lots.below(13))


def flattening(lots):
    """A shift by 0 or 1 beats, or what never rises by more than at the beat ahead."""
    if lots.below(3) == 0:
        return shift(lots.below(4), lots.below(2))
    told, step = [lots.below(4)], 9
    for _ in range(lots.below(4)):
        step = lots.below(min(step, 12 - told[-1]) + 1)
        told.append(told[-1] + step)
    return Curve(told, 1, lots.below(step + 1))


def small_system(lots, turn):
    """A system of one of the three kinds of which Part 5 says that TooMany does not come."""
    def pairs(many, curve):
        return [(to, source, curve()) for to in range(many) for source in range(many) if lots.below(4)]

    many = 1 + lots.below(4)
    if turn % 3 == 0:
        return System([small_curve(lots)], pairs(1, lambda: small_curve(lots)))
    if turn % 3 == 1:
        return System([small_curve(lots), small_curve(lots)],
                      pairs(2, lambda: shift(lots.below(13), lots.below(3))))
    return System([of_period_1(lots) for _ in range(many)], pairs(many, lambda: flattening(lots)))


class Systems(Case):
    def test_attributes(self):
        one, two, f = flat(1), line(1, 2, 3), late(1, 1, 1)
        system = System([one, two], [(1, 0, f), (0, 1, one), (0, 0, two), (1, 1, f)])
        self.assertEqual(system.bases, (one, two))
        self.assertEqual(system.arcs, ((0, 0, two), (0, 1, one), (1, 0, f), (1, 1, f)))
        self.assertIs(type(system.bases), tuple)
        self.assertIs(type(system.arcs), tuple)
        self.assertEqual(System((one,), ()).arcs, ())

    def test_equal(self):
        one, two = flat(1), line(1, 2, 3)
        system = System([one, two], [(1, 0, one), (0, 1, two)])
        self.assertEqual(system, System((one, two), ((0, 1, two), (1, 0, one))))
        for other in (System([one, two], [(1, 0, one)]), System([two, one], [(1, 0, one), (0, 1, two)]),
                      System([one, two], [(1, 0, one), (0, 1, one)]), System([one, two], [(1, 0, one), (0, 0, two)])):
            self.assertNotEqual(system, other)
        self.assertFalse(system == (system.bases, system.arcs))

    def test_bad_bases(self):
        one = flat(1)
        for bases in ([], (), [one] * 7, None, one, [None], [one, 0], {0: one}, "a", [[one]], 1):
            self.refuses(BadSystem, System, bases, None, part="bases")
        self.assertEqual(len(System([one] * 6, []).bases), 6)

    def test_bad_arcs(self):
        f = flat(1)
        for arcs in (None, 0, f, {}, (0, 0, f), [[0, 0, f]], [(0, 0)], [(0, 0, f, f)], [(0, 0, None)],
                     [(True, 0, f)], [(0, False, f)], [(2, 0, f)], [(0, 2, f)], [(-1, 0, f)], [(0, -1, f)],
                     [(0, 0, f), (0, 0, flat(2))], [(0.0, 0, f)], ["00f"], [(0, None, f)], [(0, 0, [0, 1])]):
            self.refuses(BadSystem, System, [f, f], arcs, part="arcs")
        self.refuses(BadSystem, System, [f], [(0, 1, f)], part="arcs")
        self.assertEqual(len(System([f] * 6, [(a, b, f) for a in range(6) for b in range(6)]).arcs), 36)


class Solutions(Case):
    def test_greatest(self):
        lots = Lots(241)
        for _ in range(80):
            system = some_system(lots)
            told = solved(system)
            self.assertIs(type(told), list)
            self.assertEqual([numbers(one, 40) for one in told], plain_greatest(system, 40))
            self.assertIs(is_solution(system, told), True)
            self.assertIs(is_solution(system, tuple(told)), True)

    def test_least(self):
        lots = Lots(242)
        for _ in range(60):
            system = some_system(lots, 3)
            told = least_solved(system)
            self.assertIs(type(told), list)
            self.assertEqual([numbers(one, 14) for one in told], plain_least(system, 14))
            self.assertIs(is_solution(system, told), True)

    def test_still_joints_and_one_solution(self):
        lots = Lots(243)
        seen = set()
        for _ in range(200):
            system = some_system(lots)
            still = still_joints(system)
            self.assertEqual(still, plain_still(system))
            self.assertIs(type(still), tuple)
            greatest, least = solved(system), least_solved(system)
            told = is_one(system)
            self.assertIs(told, greatest == least)
            self.assertIs(told, all(greatest[joint] == flat(0) for joint in still))
            bases = [flat(0) if joint in still else base for joint, base in enumerate(system.bases)]
            self.assertEqual(least, solved(System(bases, system.arcs)))
            seen.add((len(still) > 0, told))
        self.assertEqual(seen, {(False, True), (True, True), (True, False)})

    def test_between_the_two(self):
        lots = Lots(244)
        for _ in range(60):
            system = some_system(lots, 3)
            greatest, least = solved(system), least_solved(system)
            self.assertTrue(all(is_below(low, high) for low, high in zip(least, greatest)))
            # A row put below what the rule tells of it, again and again, is below the greatest solution.
            row = [some_curve(lots, 4, 3) for _ in system.bases]
            rows = [numbers(one, 30) for one in row]
            while True:
                further = [[min(one, two) for one, two in zip(mine, its)]
                           for mine, its in zip(rows, plain_rule(system, rows))]
                if further == rows:
                    break
                rows = further
            for mine, one in zip(rows, greatest):
                self.assertTrue(all(x <= y for x, y in zip(mine, numbers(one, 30))))

    def test_is_solution_of_any_value(self):
        system = System([line(2, 1, 1), flat(None)], [(1, 0, shift(1, 2))])
        told = solved(system)
        self.assertEqual(told, [line(2, 1, 1), Curve([1, 1, 1, 4], 1, 1)])
        for thing in (None, 0, [], told[:1], told + told[:1], {0: told[0]}, "ab", told[0], [told[0], None],
                      [told[0], told[1].start], told[::-1], [told[0], raised(told[1], 1)], [flat(0), told[1]]):
            self.assertIs(is_solution(system, thing), False)

    def test_changed_solutions(self):
        lots = Lots(245)
        for _ in range(60):
            system = some_system(lots)
            row = solved(system)
            place = lots.below(len(row))
            row[place] = some_curve(lots, 4, 4)
            rows = [numbers(one, 60) for one in row]
            # Curves so short that are alike for so long are alike.
            self.assertIs(is_solution(system, row), plain_rule(system, rows) == rows)

    def test_by_hand(self):
        f = shift(2, 3)
        self.assertEqual(solved(System([flat(5)], [])), [flat(5)])
        self.assertEqual(solved(System([unit()], [(0, 0, f)])), [Curve([0, 2, 2], 3, 2)])
        ring = System([line(1, 1, 1), flat(None), flat(7)],
                      [(1, 0, shift(0, 0)), (0, 1, shift(0, 0)), (2, 1, shift(1, 1))])
        self.assertEqual(still_joints(ring), (0, 1))
        self.assertEqual(solved(ring)[:2], [line(1, 1, 1)] * 2)
        self.assertEqual(least_solved(ring), [flat(0), flat(0), flat(1)])
        self.assertFalse(is_one(ring))
        # A ring that takes no beat but adds something is not still; one that takes a beat is.
        for arc, still in ((shift(1, 0), ()), (shift(1, 5), ()), (shift(0, 5), (0,)), (late(9, 1, 1), (0,))):
            self.assertEqual(still_joints(System([flat(3)], [(0, 0, arc)])), still)
        self.assertTrue(is_one(System([flat(3)], [(0, 0, shift(1, 0))])))
        self.assertTrue(is_one(System([flat(0)], [(0, 0, shift(0, 0))])))

    def test_1_to_6_joints_in_a_ring(self):
        for many in range(1, 7):
            arcs = [((joint + 1) % many, joint, shift(1, 1)) for joint in range(many)]
            system = System([unit()] + [flat(None)] * (many - 1), arcs)
            # Once round takes many beats and adds as many letters.
            rows = plain_greatest(system, 40)
            self.assertEqual([numbers(one, 40) for one in solved(system)], rows)
            self.assertEqual(rows[0], [min(k * many for k in range(41) if k * many >= t) for t in range(40)])
            self.assertTrue(is_one(system))
            still = System([line(1, 1, 1)] * many, [(to, source, shift(0, beats)) for (to, source, _), beats
                                                    in zip(arcs, range(many))])
            self.assertEqual(still_joints(still), tuple(range(many)))
            self.assertEqual(least_solved(still), [flat(0)] * many)
            self.assertEqual([numbers(one, 40) for one in solved(still)], plain_greatest(still, 40))

    def test_all_beats(self):
        # The base is the cheaper way for long, the ring in the end.
        system = System([line(0, 3, 2)], [(0, 0, shift(40, 30))])
        self.same(solved(system)[0], plain_greatest(system, 300)[0])
        system = System([line(5, 50, 3), line(900, 1, 7)], [(0, 1, shift(3, 1)), (1, 0, shift(2, 5)),
                                                            (1, 1, shift(11, 2))])
        for told, row in zip(solved(system), plain_greatest(system, 500)):
            self.same(told, row)


class Limits(Case):
    def test_small_systems_are_told(self):
        """Where [50] ff. say that TooMany does not come."""
        lots = Lots(246)
        for turn in range(150):
            system = small_system(lots, turn)
            for told in (solved(system), least_solved(system)):
                self.assertTrue(is_solution(system, told))
                told[lots.below(len(told))] = small_curve(lots)
                is_solution(system, told)
            is_one(system)

    def test_too_many(self):
        self.assertEqual(solved(System([long_curve(4000)], [])), [long_curve(4000)])
        far = System([line(0, 1, 1)], [(0, 0, Curve([BIG, BIG], 1, 0))])
        self.too_many(4000, solved, far)
        self.assertTrue(is_one(far))
        slow = System([flat(0)], [(0, 0, long_curve(500))])
        self.too_many(400, solved, slow)
        self.too_many(400, is_one, slow)

    def test_refuses(self):
        for thing in NO_SYSTEMS:
            for call in (solved, still_joints, least_solved, is_one):
                self.refuses(BadSystem, call, thing, part=None)
            self.refuses(BadSystem, is_solution, thing, None, part=None)


if __name__ == "__main__":
    unittest.main()
