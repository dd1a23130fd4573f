"""[52], [53]: what goes through systems, and systems without a joint."""

import unittest

from worstwait.closures import closure
from worstwait.curves import Curve, flat, late, line
from worstwait.errors import BadNumber, BadSystem
from worstwait.foldings import folding, unit
from worstwait.joined import later, least_of, raised
from worstwait.systems import System, solved
from worstwait.throughs import shift, through, without
from tests.plain import NO_NUMBERS, Case, Lots, long_curve, numbers, some_curve
from tests.test_systems import NO_SYSTEMS, plain_greatest, some_system

BIG = 10 ** 9


class Shifts(Case):
    def test_values(self):
        for number, beats in ((0, 0), (3, 0), (0, 2), (BIG, 300), (7, 5)):
            told = shift(number, beats)
            self.assertEqual(told, Curve([number] * (beats + 1) + [None], 1, 0))
        self.assertEqual(shift(0, 0), unit())

    def test_so_much_later_and_more(self):
        lots = Lots(251)
        for _ in range(60):
            curve, number, beats = some_curve(lots), lots.below(5), lots.below(6)
            row = numbers(curve, 60)
            wanted = [number + row[max(0, t - beats)] for t in range(60)]
            self.same(folding(shift(number, beats), curve), wanted)
        self.assertEqual(folding(shift(2, 300), late(0, 1, 1)), raised(later(late(0, 1, 1), 300), 2))

    def test_refuses(self):
        for wrong in NO_NUMBERS + (-1, BIG + 1):
            self.refuses(BadNumber, shift, wrong, -1, part="number")
        for wrong in NO_NUMBERS + (-1, 301):
            self.refuses(BadNumber, shift, 0, wrong, part="beats")


class Throughs(Case):
    def test_what_the_rule_tells(self):
        lots = Lots(252)
        for _ in range(50):
            system = some_system(lots, 3)
            many = len(system.bases)
            for joint in range(many):
                bases = [flat(None)] * many
                bases[joint] = unit()
                rows = plain_greatest(System(bases, system.arcs), 40)
                for to in range(many):
                    self.same(through(system, to, joint), rows[to])

    def test_laws(self):
        lots = Lots(253)
        for _ in range(40):
            system = some_system(lots, 3)
            joints = range(len(system.bases))
            told = [[through(system, to, joint) for joint in joints] for to in joints]
            for to, one in enumerate(solved(system)):
                least = flat(None)
                for joint in joints:
                    least = least_of(least, folding(told[to][joint], system.bases[joint]))
                self.assertEqual(one, least)
                for joint in joints:
                    least = flat(None)
                    for middle in joints:
                        least = least_of(least, folding(told[to][middle], told[middle][joint]))
                    self.assertEqual(told[to][joint], least)

    def test_by_hand(self):
        system = System([flat(3), flat(4)], [(1, 0, shift(2, 3)), (1, 1, shift(1, 1))])
        self.assertEqual(through(system, 0, 0), unit())
        self.assertEqual(through(system, 0, 1), flat(None))
        self.assertEqual(through(system, 1, 1), line(0, 1, 1))
        self.assertEqual(through(system, 1, 0), Curve([2, 2, 2, 2], 1, 1))
        self.assertEqual(through(System([flat(9)], []), 0, 0), unit())

    def test_too_many(self):
        system = System([flat(0)] * 2, [(0, 0, long_curve(500)), (1, 0, shift(0, 1))])
        self.too_many(400, through, system, 0, 0)
        self.too_many(400, without, system, 0)

    def test_refuses(self):
        system = System([flat(1), flat(2)], [])
        for thing in NO_SYSTEMS:
            self.refuses(BadSystem, through, thing, -1, -1, part=None)
            self.refuses(BadSystem, without, thing, -1, part=None)
        for wrong in NO_NUMBERS + (-1, 2):
            self.refuses(BadNumber, through, system, wrong, -1, part="to")
            self.refuses(BadNumber, through, system, 0, wrong, part="joint")
            self.refuses(BadNumber, without, system, wrong, part="joint")
        self.refuses(BadNumber, without, System([flat(1)], []), 1, part="joint")
        self.refuses(BadSystem, without, System([flat(1)], []), 0, part="bases")


class Withouts(Case):
    def plain_without(self, system, joint):
        """The bases and the arcs as [53] tells them one by one."""
        arcs = {(to, source): curve for to, source, curve in system.arcs}
        c = closure(arcs[joint, joint]) if (joint, joint) in arcs else unit()
        others = [place for place in range(len(system.bases)) if place != joint]
        bases = []
        for to in others:
            base = system.bases[to]
            if (to, joint) in arcs:
                base = least_of(base, folding(arcs[to, joint], folding(c, system.bases[joint])))
            bases.append(base)
        told = []
        for to in others:
            for source in others:
                curves = [arcs[to, source]] if (to, source) in arcs else []
                if (to, joint) in arcs and (joint, source) in arcs:
                    curves.append(folding(arcs[to, joint], folding(c, arcs[joint, source])))
                if curves:
                    told.append((others.index(to), others.index(source), least_of(curves[0], curves[-1])))
        return System(bases, told)

    def test_one_by_one(self):
        lots = Lots(254)
        for _ in range(60):
            system = some_system(lots)
            if len(system.bases) == 1:
                continue
            for joint in range(len(system.bases)):
                told = without(system, joint)
                self.assertEqual(told, self.plain_without(system, joint))
                row = solved(system)
                del row[joint]
                self.assertEqual(solved(told), row)

    def test_6_joints(self):
        arcs = [((joint + 1) % 6, joint, shift(joint, joint)) for joint in range(6)]
        system = System([line(joint, 1, 1) for joint in range(6)], arcs)
        row = solved(system)
        for joint in (5, 3, 0, 1, 1):
            system = without(system, joint)
            del row[joint]
            self.assertEqual(solved(system), row)
        self.assertEqual(len(system.bases), 1)
        self.assertEqual(system.arcs, ((0, 0, shift(15, 15)),))

    def test_by_hand(self):
        # From 0 to 1, round there, and back: an arc of 0 to itself comes of it.
        system = System([flat(9), flat(4)], [(1, 0, shift(2, 3)), (1, 1, shift(5, 1)), (0, 1, shift(1, 0))])
        told = without(system, 1)
        self.assertEqual(told.bases, (raised(flat(4), 1),))
        self.assertEqual(told.arcs, ((0, 0, Curve([3, 3, 3, 3], 1, 5)),))
        self.assertEqual(without(System([flat(1), flat(2), flat(3)], [(2, 0, flat(7))]), 1),
                         System([flat(1), flat(3)], [(1, 0, flat(7))]))


if __name__ == "__main__":
    unittest.main()
