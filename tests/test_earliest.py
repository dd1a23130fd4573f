"""[75]: ways out of a gate, and what is due earliest first."""

import unittest
from itertools import product

from worstwait.bookings import all_kept
from worstwait.closures import closure
from worstwait.earliest import earliest_run, is_way_out, missed
from worstwait.errors import BadDeadlines, BadNumber, BadRows, BadTimetable, BadWays
from tests.plain import NO_NUMBERS, Case, Lots, numbers
from tests.test_bookings import some_bookings
from tests.test_gates import NO_TABLES, some_table
from tests.test_promises import plain_row
from tests.test_rests import kept_traffic
from tests.test_traffics import NO_ROWS

BIG = 10 ** 9
NO_LISTS = (None, 3, [], (), "0", {0: [0]}, [0], [[0, 1], [0]], [[0]] * 13) + tuple([[0, 1], row] for row in NO_ROWS)


def some_rows(lots, many, beats, most=3):
    return [plain_row([lots.of([0, lots.below(most + 1)]) for _ in range(beats)]) for _ in range(many)]


def plain_earliest(table, phase, rows, deadlines):
    """Letter by letter: each beat all letters that are there stand in a row by due beat and place."""
    there = []
    gone = [0] * len(rows)
    told = [[0] for _ in rows]
    for beat in range(len(rows[0]) - 1):
        for place, row in enumerate(rows):
            there += [(beat + 1 + deadlines[place], place)] * (row[beat + 1] - row[beat])
        there.sort()
        lets = table[(phase + beat) % len(table)]
        for _, place in there[:lets]:
            gone[place] += 1
        there = there[lets:]
        for way, many in zip(told, gone):
            way.append(many)
    return told


def plain_missed(rows, ways, deadlines):
    """Letter by letter: when each is due, and whether it has gone out below that beat."""
    found = []
    for place, row in enumerate(rows):
        for beat in range(len(row) - 1):
            for letter in range(row[beat], row[beat + 1]):
                due = beat + 1 + deadlines[place]
                if due < len(row) and ways[place][due] <= letter:
                    found.append((due, place))
    return min(found, default=None)


def all_ways_miss(table, phase, rows, deadlines):
    """Whether each way of letting letters out misses a deadline, tried one by one."""
    states = {tuple([0] * len(rows))}
    for beat in range(len(rows[0]) - 1):
        further = set()
        for gone in states:
            for more in product(*[range(row[beat + 1] - one + 1) for row, one in zip(rows, gone)]):
                state = tuple(one + two for one, two in zip(gone, more))
                if sum(more) > table[(phase + beat) % len(table)]:
                    continue
                due = [row[beat + 1 - deadline] if beat + 1 >= deadline else 0 for row, deadline in zip(rows, deadlines)]
                if all(one >= two for one, two in zip(state, due)):
                    further.add(state)
        states = further
    return not states


class Runs(Case):
    def test_letter_by_letter(self):
        lots = Lots(281)
        for _ in range(150):
            table = some_table(lots)
            rows = some_rows(lots, 1 + lots.below(4), lots.below(12))
            deadlines = [lots.below(6) for _ in rows]
            phase = lots.below(len(table))
            told = earliest_run(table, phase, rows, deadlines)
            self.assertIs(type(told), list)
            self.assertEqual([list(way) for way in told], plain_earliest(table, phase, rows, deadlines))
            self.assertTrue(is_way_out(table, phase, rows, told))
            self.assertEqual(missed(rows, told, tuple(deadlines)), plain_missed(rows, told, deadlines))

    def test_best(self):
        lots = Lots(282)
        hopeless = 0
        for _ in range(120):
            table = some_table(lots, 3, 2)
            rows = some_rows(lots, 1 + lots.below(3), 5, 2)
            deadlines = [lots.below(4) for _ in rows]
            told = earliest_run(table, 0, rows, deadlines)
            none = all_ways_miss(table, 0, rows, deadlines)
            self.assertIs(missed(rows, told, deadlines) is not None, none)
            hopeless += none
        self.assertTrue(20 < hopeless < 110)

    def test_kept_bookings_miss_nothing(self):
        lots = Lots(283)
        kept = 0
        while kept < 25:
            table = some_table(lots, 4, 6)
            bookings = some_bookings(lots, 1 + lots.below(2))
            if not all_kept(table, bookings):
                continue
            kept += 1
            greedy = [numbers(closure(booking[1]), 30) for booking in bookings]
            traffics = [(kept_traffic(lots, booking[1], 12) + [0] * 12)[:12] for booking in bookings]
            for phase in range(len(table)):
                for rows in (greedy, [plain_row(one) for one in traffics]):
                    deadlines = [booking[2] for booking in bookings]
                    self.assertIsNone(missed(rows, earliest_run(table, phase, rows, deadlines), deadlines))

    def test_edges(self):
        self.assertEqual([tuple(way) for way in earliest_run((1,), 0, [[0]], [0])], [(0,)])
        rows = [[0, 1]] * 12
        told = earliest_run((5,), 0, rows, [300] * 11 + [0])
        self.assertEqual([way[1] for way in told], [1] * 4 + [0] * 7 + [1])
        self.assertIsNone(missed(rows, told, [300] * 11 + [0]))
        self.assertEqual(missed(rows, told, [1] * 12), None)
        self.assertEqual(missed(rows, told, [0] * 12), (1, 4))
        huge = [[0] + [10 ** 30] * 1000, [0] + [7] * 1000]
        told = earliest_run((BIG,), 0, huge, [0, 300])
        self.assertEqual((told[0][1000], told[1][1000]), (BIG * 1000, 0))
        told = earliest_run((BIG,), 0, huge, [300, 299])
        self.assertEqual((told[0][1000], told[1][1], told[1][1000]), (BIG * 1000 - 7, 7, 7))
        self.assertEqual(missed(huge, told, [300, 300]), (301, 0))
        # Of those due at the same beat the first rows go first, letter by letter as they came.
        told = earliest_run((2,), 0, [[0, 0, 2, 2], [0, 2, 2, 2]], [0, 1])
        self.assertEqual([list(way) for way in told], [[0, 0, 2, 2], [0, 2, 2, 2]])
        told = earliest_run((1,), 0, [[0, 0, 2, 2, 2], [0, 2, 2, 2, 2]], [0, 1])
        self.assertEqual([list(way) for way in told], [[0, 0, 1, 2, 2], [0, 1, 1, 1, 2]])


class Ways(Case):
    def test_is_way_out(self):
        rows = [[0, 2, 3], [0, 0, 4]]
        for ways in ([[0, 1, 2], [0, 0, 2]], ([0, 0, 0], (0, 0, 0)), ((0, 1, 1), (0, 0, 3))):
            self.assertIs(is_way_out((1, 3), 0, rows, ways), True)
        for ways in ([[0, 2, 2], [0, 0, 0]], [[0, 0, 2], [0, 0, 2]], [[0, 1, 2]], [[0, 1], [0, 0]],
                     [[0, 1, 2, 2], [0, 0, 2, 2]], [[0, 1, 0], [0, 0, 2]], [[0, 1, 2], [0, 1, 2]],
                     [[0, True, 2], [0, 0, 2]], [[0, 1, None], [0, 0, 2]], None, 3, [], {}, "00",
                     [[0, 1, 2], None], [[1, 1, 2], [0, 0, 2]], [[0, 1, 4], [0, 0, 0]]):
            self.assertIs(is_way_out((1, 3), 0, rows, ways), False)
        self.assertIs(is_way_out((1, 3), 1, rows, [[0, 2, 2], [0, 0, 1]]), True)

    def test_which_are_judged(self):
        lots = Lots(284)
        for _ in range(200):
            table, rows = some_table(lots, 3, 2), some_rows(lots, 2, 3, 2)
            ways = some_rows(lots, 2, 3, 1)
            phase = lots.below(len(table))
            lets = [sum(way[t + 1] - way[t] for way in ways) <= table[(phase + t) % len(table)] for t in range(3)]
            below = all(one <= two for way, row in zip(ways, rows) for one, two in zip(way, row))
            self.assertIs(is_way_out(table, phase, rows, ways), all(lets) and below)
            if below:
                deadlines = [lots.below(3), lots.below(3)]
                self.assertEqual(missed(rows, ways, deadlines), plain_missed(rows, ways, deadlines))

    def test_the_first_row_that_misses(self):
        rows = [[0, 1, 1], [0, 1, 1], [0, 0, 9]]
        self.assertEqual(missed(rows, [[0, 0, 0], [0, 0, 0], [0, 0, 0]], [1, 1, 0]), (2, 0))
        self.assertEqual(missed(rows, [[0, 0, 1], [0, 0, 0], [0, 0, 0]], [1, 1, 0]), (2, 1))
        self.assertEqual(missed(rows, [[0, 0, 1], [0, 0, 1], [0, 0, 0]], [1, 1, 0]), (2, 2))
        self.assertEqual(missed(rows, [[0, 0, 0], [0, 0, 0], [0, 0, 0]], [2, 0, 0]), (1, 1))
        self.assertIsNone(missed(rows, [[0, 0, 0], [0, 0, 0], [0, 0, 0]], [2, 2, 1]))


class Wrong(Case):
    def test_refuses(self):
        for table in NO_TABLES:
            self.refuses(BadTimetable, is_way_out, table, -1, None, None)
            self.refuses(BadTimetable, earliest_run, table, -1, None, None)
        for wrong in NO_NUMBERS + (-1, 2):
            self.refuses(BadNumber, is_way_out, (1, 2), wrong, None, None, part="phase")
            self.refuses(BadNumber, earliest_run, (1, 2), wrong, None, None, part="phase")
        for rows in NO_LISTS:
            self.refuses(BadRows, is_way_out, (1,), 0, rows, None)
            self.refuses(BadRows, earliest_run, (1,), 0, rows, None)
            self.refuses(BadRows, missed, rows, None, None)
        for ways in (None, 3, [], [[0, 1]], [[0, 1], [0]], [[0, 1], [0, 2]], [[0, 1], [0, True]], [[0, 1], [1, 1]],
                     [[0, 1]] * 3, [[0, 1, 1], [0, 1, 1]], {0: [0, 1]}):
            self.refuses(BadWays, missed, [[0, 1], [0, 1]], ways, None)
        for deadlines in (None, 3, [], [0], [0, 0, 0], [0, -1], [0, 301], [0, True], [0, 1.0], [0, None], "00",
                          {0: 0, 1: 1}):
            self.refuses(BadDeadlines, missed, [[0, 1], [0, 1]], [[0, 1], [0, 1]], deadlines)
            self.refuses(BadDeadlines, earliest_run, (1,), 0, [[0, 1], [0, 1]], deadlines)


if __name__ == "__main__":
    unittest.main()
