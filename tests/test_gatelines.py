"""[71], [72]: lines of gates with one clock."""

import unittest

from worstwait.curves import Curve, flat, line
from worstwait.errors import BadGates, BadNumber, BadRow
from worstwait.foldings import folding
from worstwait.gatelines import gates_run, line_curve, round_of, slow_phase
from worstwait.gates import gate_curve
from worstwait.joined import is_below
from tests.plain import NO_NUMBERS, Case, Lots, numbers
from tests.test_gates import NO_TABLES, some_table
from tests.test_promises import plain_row
from tests.test_traffics import NO_ROWS

BIG = 10 ** 9
NO_GATES = (None, 3, [], (), (1,), (1, 2), [1], [[1]], "1", {0: (1,)}, [(1,)] * 7) + tuple(
    [(1,), table] for table in NO_TABLES)


def plain_run(gates, phase, traffic):
    """Letters in bulk, beat by beat, gate by gate: how many went out of each gate below each beat."""
    heaps = [0] * len(gates)
    told = [[0] for _ in gates]
    for beat, letters in enumerate(traffic):
        for place, table in enumerate(gates):
            heaps[place] += letters
            letters = min(heaps[place], table[(phase + beat) % len(table)])
            heaps[place] -= letters
            told[place].append(told[place][-1] + letters)
    return told


def plain_round(gates):
    beats = 1
    while any(beats % len(table) for table in gates):
        beats += 1
    return beats


def some_gates(lots, most=4):
    return [some_table(lots, 5, 4) for _ in range(1 + lots.below(most))]


def full(gates, beats):
    """More letters than can ever go out, all at beat 0."""
    return [1 + beats * max(gates[0])] + [0] * (beats - 1) if beats else []


def plain_outs(gates, beats):
    """For each phase how many go out of the last gate below each beat, with always enough."""
    return [plain_run(gates, phase, full(gates, beats))[-1] for phase in range(plain_round(gates))]


class Rounds(Case):
    def test_round_of(self):
        lots = Lots(271)
        for _ in range(60):
            gates = some_gates(lots, 6)
            self.assertEqual(round_of(gates), plain_round(gates))
            self.assertEqual(round_of(tuple(gates)), plain_round(gates))
        self.assertEqual(round_of([(1,)] * 6), 1)
        self.assertEqual(round_of([(0,) * 16, (0,) * 25]), 400)
        self.too_many(400, round_of, [(0,) * 60, (0,) * 7])
        self.too_many(400, round_of, [(0,) * 8, (0,) * 51])
        self.assertEqual(round_of([(0,) * 57, (0,) * 7]), 399)


class Runs(Case):
    def test_beat_by_beat(self):
        lots = Lots(272)
        for _ in range(100):
            gates = some_gates(lots)
            traffic = [lots.below(6) for _ in range(lots.below(20))]
            for phase in range(plain_round(gates)):
                wanted = plain_run(gates, phase, traffic)
                for row in (plain_row(traffic), tuple(plain_row(traffic))):
                    told = gates_run(gates, phase, row)
                    self.assertIs(type(told), list)
                    self.assertEqual([list(one) for one in told], wanted)

    def test_edges(self):
        self.assertEqual([list(one) for one in gates_run([(5,), (1,)], 0, [0])], [[0], [0]])
        told = gates_run([(1,)] * 6, 0, list(range(1001)))
        self.assertEqual([list(one) for one in told], [list(range(1001))] * 6)
        table = (0,) * 15 + (1,)
        told = gates_run([table, (0,) * 24 + (1,)], 399, [0, 5])
        self.assertEqual([list(one) for one in told], [[0, 1], [0, 1]])
        self.assertEqual([list(one) for one in gates_run([(BIG,)], 0, [0, 10 ** 30])], [[0, BIG]])

    def test_the_row_stays(self):
        row = [0, 3, 3]
        gates_run([(1,), (1,)], 0, row)
        self.assertEqual(row, [0, 3, 3])


class Curves(Case):
    def test_least_of_all_phases(self):
        lots = Lots(273)
        for _ in range(60):
            gates = some_gates(lots)
            outs = plain_outs(gates, 150)
            least = [min(row[beat] for row in outs) for beat in range(151)]
            self.same(line_curve(gates), least)
            for beats in (0, 1, 2, 7, 29, lots.below(150), 150):
                told = [row[beats] for row in outs]
                self.assertEqual(slow_phase(gates, beats), told.index(min(told)))

    def test_one_gate(self):
        lots = Lots(274)
        for _ in range(30):
            table = some_table(lots)
            self.assertEqual(line_curve([table]), gate_curve(table))

    def test_one_clock_is_never_a_loss(self):
        lots = Lots(275)
        better = 0
        for _ in range(60):
            gates = some_gates(lots)
            folded = gate_curve(gates[0])
            for table in gates[1:]:
                folded = folding(folded, gate_curve(table))
            self.assertTrue(is_below(folded, line_curve(gates)))
            better += folded != line_curve(gates)
        self.assertGreater(better, 2)

    def test_all_rows_at_all_phases(self):
        lots = Lots(276)
        for _ in range(30):
            gates = some_gates(lots)
            curve = numbers(line_curve(gates), 31)
            traffic = [lots.of([0, 0, 1, 5]) for _ in range(30)]
            row = plain_row(traffic)
            for phase in range(plain_round(gates)):
                out = plain_run(gates, phase, traffic)[-1]
                for t in range(31):
                    self.assertGreaterEqual(out[t], min(row[s] + curve[t - s] for s in range(t + 1)))

    def test_narrow_gates_behind_wide_ones(self):
        # What comes out of the wide gates lies ahead of the narrow ones in the first rounds.
        gates = [(0, 0, 9), (0, 8, 0, 0), (0, 0, 0, 0, 10), (5, 0), (2, 1, 1), (0, 0, 4)]
        outs = plain_outs(gates, 420)
        self.same(line_curve(gates), [min(row[beat] for row in outs) for beat in range(421)])
        for beats in (60, 119, 120, 300, 359, 360, 361, 419):
            told = [row[beats] for row in outs]
            self.assertEqual(slow_phase(gates, beats), told.index(min(told)))

    def test_edges(self):
        self.assertEqual(line_curve([(0,), (5,)]), flat(0))
        self.assertEqual(line_curve([(BIG,)] * 6), line(0, BIG, 1))
        self.assertEqual(line_curve([(0, 2), (2, 0)]), Curve([0, 0, 0], 2, 2))
        # All at once, where both open in the same beat.
        self.assertEqual(line_curve([(0, 2), (0, 2)]), Curve([0, 0], 2, 2))
        wide = [tuple([0] * 15 + [16]), tuple([0] * 24 + [25])]
        self.assertEqual(line_curve(wide), self.by_outs(wide))
        self.assertEqual(slow_phase([(1, 0), (0, 1)], 4000), 1)
        self.assertEqual(slow_phase([(0, 1), (1, 0)], 1), 0)
        self.assertEqual(slow_phase([(3,)], 4000), 0)

    def by_outs(self, gates):
        outs = plain_outs(gates, 1600)
        least = [min(row[beat] for row in outs) for beat in range(1601)]
        told = line_curve(gates)
        self.same(told, least)
        return told


class Wrong(Case):
    def test_refuses(self):
        gates, far = [(0, 1), (1,)], [(0,) * 60, (1,) * 7]
        for thing in NO_GATES:
            self.refuses(BadGates, round_of, thing)
            self.refuses(BadGates, gates_run, thing, -1, None)
            self.refuses(BadGates, line_curve, thing)
            self.refuses(BadGates, slow_phase, thing, -1)
        for wrong in NO_NUMBERS + (-1, 2):
            self.refuses(BadNumber, gates_run, gates, wrong, None, part="phase")
        self.refuses(BadNumber, gates_run, far, 420, None, part="phase")
        for wrong in NO_NUMBERS + (-1, 4001):
            self.refuses(BadNumber, slow_phase, gates, wrong, part="beats")
            self.refuses(BadNumber, slow_phase, far, wrong, part="beats")
        for thing in NO_ROWS:
            self.refuses(BadRow, gates_run, gates, 1, thing)
            self.refuses(BadRow, gates_run, far, 419, thing)

    def test_long_rounds(self):
        far = [(0,) * 60, (1,) * 7]
        self.too_many(400, round_of, far)
        self.too_many(400, gates_run, far, 419, [0])
        self.too_many(400, line_curve, far)
        self.too_many(400, slow_phase, far, 0)


if __name__ == "__main__":
    unittest.main()
