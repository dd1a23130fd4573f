"""[70], [78]: gates."""

import unittest

from worstwait.curves import Curve, flat, value, values
from worstwait.errors import BadNumber, BadTimetable
from worstwait.gates import gate_curve, gate_most, is_timetable, least_phase, let_through
from tests.plain import NO_NUMBERS, Case, Lots, numbers

BIG = 10 ** 9
NO_TABLES = ((), (-1,), (BIG + 1,), (True,), (0, False), ("1",), (1.0,), (None,), [1], [1, 2], "12", None, 3,
             {1: 2}, (0,) * 61, ((1,),))


def plain_through(table, phase, beats):
    return sum(table[(phase + beat) % len(table)] for beat in range(beats))


def some_table(lots, longest=7, most=5):
    return tuple(lots.below(most + 1) for _ in range(1 + lots.below(longest)))


class Gates(Case):
    def test_is_timetable(self):
        for table in ((0,), (BIG,), (0,) * 60, (1, 2, 3)):
            self.assertIs(is_timetable(table), True)
        for thing in NO_TABLES:
            self.assertIs(is_timetable(thing), False)

    def test_let_through(self):
        lots = Lots(61)
        for _ in range(100):
            table = some_table(lots)
            for phase in range(len(table)):
                for beats in (0, 1, 2, 13, 40):
                    self.assertEqual(let_through(table, phase, beats), plain_through(table, phase, beats))
        self.assertEqual(let_through((1, 2, 3), 2, BIG), 3 + (BIG - 1) // 3 * 6)
        self.assertEqual(let_through((BIG,) * 60, 59, BIG), BIG * BIG)

    def test_curves_and_least_phase(self):
        lots = Lots(62)
        for _ in range(100):
            table = some_table(lots)
            phases = range(len(table))
            told = [[plain_through(table, phase, beats) for phase in phases] for beats in range(40)]
            self.same(gate_curve(table), [min(row) for row in told])
            self.same(gate_most(table), [max(row) for row in told])
            for beats, row in enumerate(told):
                self.assertEqual(least_phase(table, beats), row.index(min(row)))
        self.assertEqual(least_phase((0, 1), BIG), 0)
        self.assertEqual(least_phase((1, 0), BIG - 1), 1)

    def test_facts(self):
        lots = Lots(63)
        for _ in range(50):
            table = some_table(lots, 5)
            least, most = numbers(gate_curve(table), 40), numbers(gate_most(table), 40)
            for s in range(20):
                for t in range(20):
                    self.assertGreaterEqual(least[s + t], least[s] + least[t])
                    self.assertLessEqual(most[s + t], most[s] + most[t])
            rounds = len(table) * 7
            for t in range(rounds + 1):
                if t < 40 and rounds - t < 40:
                    self.assertEqual(most[t], 7 * sum(table) - least[rounds - t])

    def test_by_hand(self):
        self.assertEqual(values(gate_curve((2, 0)), 5), [0, 0, 2, 2, 4])
        self.assertEqual(values(gate_most((2, 0)), 4), [0, 2, 2, 4])
        self.assertEqual(least_phase((2, 0), 1), 1)
        self.assertEqual(gate_curve((0,)), flat(0))
        self.assertEqual(gate_curve((3, 3)), Curve([0], 1, 3))
        self.assertEqual(gate_curve((0,) * 59 + (1,)).period, 60)
        self.assertEqual(value(gate_curve((BIG,) * 60), 10 ** 12), BIG * 10 ** 12)

    def test_refuses(self):
        for table in NO_TABLES:
            self.refuses(BadTimetable, let_through, table, -1, -1)
            self.refuses(BadTimetable, least_phase, table, -1)
            self.refuses(BadTimetable, gate_curve, table)
            self.refuses(BadTimetable, gate_most, table)
        for wrong in NO_NUMBERS + (-1, 2):
            self.refuses(BadNumber, let_through, (1, 2), wrong, -1, part="phase")
        for wrong in NO_NUMBERS + (-1, BIG + 1):
            self.refuses(BadNumber, let_through, (1, 2), 0, wrong, part="beats")
            self.refuses(BadNumber, least_phase, (1, 2), wrong, part="beats")


if __name__ == "__main__":
    unittest.main()
