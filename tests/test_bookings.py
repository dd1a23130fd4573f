"""[74], [78], [85]: bookings."""

import unittest

from worstwait.bookings import all_kept, breaking, due_curve, is_bookings
from worstwait.curves import Curve, flat, line, values
from worstwait.errors import BadBookings, BadTimetable
from worstwait.inverses import reach
from worstwait.joined import later, raised, times
from tests.plain import INF, NO_NUMBERS, Case, Lots, numbers, some_curve
from tests.test_closures import plain_closure, two_parts
from tests.test_gates import NO_TABLES, plain_through, some_table

BIG = 10 ** 9
A = Curve([0, 1, 1, 2], 2, 1)
NO_BOOKINGS = [
    None, 3, "a", {}, {"a": 1}, ("a", A, 1), [["a", A, 1]], [("a", A)], [("a", A, 1, 2)], [("", A, 1)],
    [("A", A, 1)], [("a" * 13, A, 1)], [("a1", A, 1)], [(b"a", A, 1)], [("a", [0, 1], 1)], [("a", None, 1)],
    [("a", A, True)], [("a", A, -1)], [("a", A, 301)], [("a", A, 1.0)], [("a", A, None)],
    [("a", A, 1), ("a", A, 2)], [("a", flat(None), 1)], [("a", Curve([0, None], 1, 0), 1)],
    [("a", later(A, 400), 1)], [("a", reach(Curve([0], 1, 61)), 1)],
    [("a", raised(flat(BIG), 1), 1)], [("a", times(line(0, BIG, 1), 2), 1)],
    [("abcdefghijklm"[k], A, 1) for k in range(13)], [("a", A, 1), None],
]


def some_bookings(lots, many):
    told = []
    while len(told) < many:
        promise = some_curve(lots, 5, 2)
        if numbers(promise, 2)[1] != INF:
            told.append(("zyxwv"[len(told)], promise, lots.below(9)))
    return told


def plain_due(bookings, many):
    told = [0] * many
    for _, promise, deadline in bookings:
        row = ([0] * deadline + plain_closure(promise, many))[:many]
        told = [one + two for one, two in zip(told, row)]
    return told


def plain_gate(table, many):
    return [min(plain_through(table, phase, beats) for phase in range(len(table))) for beats in range(many)]


class Judged(Case):
    def test_is_bookings(self):
        for thing in ([], (), [("a", A, 0)], (("b", A, 300), ("a", A, 0)), [("a" * 12, flat(BIG), 1)],
                      [("abcdefghijkl"[k], A, 1) for k in range(12)],
                      [("a", Curve([5, 2 + 3, None], 1, 0), 1)], [("a", Curve([0] * 400, 1, 0), 1)],
                      [("a", Curve([0] * 60, 60, BIG), 1)], [("a", Curve([0] * 399 + [1], 1, 0), 1)]):
            self.assertIs(is_bookings(thing), True)
        for thing in NO_BOOKINGS:
            self.assertIs(is_bookings(thing), False)

    def test_names_are_words(self):
        for name in NO_NUMBERS + ("", "a b", "z" * 13, "\u00e4", "a\n"):
            self.assertIs(is_bookings([(name, A, 0)]), False)


class Due(Case):
    def test_due_curve(self):
        lots = Lots(71)
        for _ in range(80):
            bookings = some_bookings(lots, lots.below(5))
            self.same(due_curve(bookings), plain_due(bookings, 80))
            self.assertEqual(due_curve(tuple(bookings[::-1])), due_curve(bookings))
        self.assertEqual(due_curve([]), flat(0))

    def test_by_hand(self):
        self.assertEqual(values(due_curve([("a", A, 1)]), 6), [0, 0, 1, 1, 2, 2])
        self.assertEqual(values(due_curve([("a", A, 0)]), 4), [0, 1, 1, 2])
        self.assertTrue(all_kept((2, 0), [("a", A, 1)]))
        self.assertEqual(breaking((2, 0), [("a", A, 0)]), (1, 1, ((0, 1),)))
        self.assertTrue(all_kept((2, 0), [("a", A, 1), ("b", A, 1)]))
        three = [("a", A, 1), ("b", A, 1), ("c", A, 1)]
        self.assertEqual(breaking((2, 0), three)[0], 2)

    def test_facts_of_the_examples(self):
        one, two = line(1, 1, 2), line(2, 1, 4)
        self.assertTrue(all_kept((0, 2), [("a", one, 1), ("b", two, 5)]))
        self.assertEqual(breaking((0, 2), [("a", one, 1), ("b", two, 4)])[0], 5)

    def test_exactly_if(self):
        lots = Lots(72)
        seen = {True: 0, False: 0}
        for _ in range(90):
            table, bookings = some_table(lots, 4, 9), some_bookings(lots, lots.below(4))
            due, gate = plain_due(bookings, 250), plain_gate(table, 250)
            above = [beat for beat in range(250) if due[beat] > gate[beat]]
            self.assertIs(all_kept(table, bookings), not above)
            seen[not above] += 1
            found = breaking(table, bookings)
            if not above:
                self.assertIsNone(found)
                continue
            beat, phase, rows = found
            self.assertEqual(beat, above[0])
            told = [plain_through(table, one, beat) for one in range(len(table))]
            self.assertEqual(phase, told.index(min(told)))
            wanted = [[min(one, gate[beat] + 1) for one in plain_closure(promise, beat + 1)]
                      for _, promise, _ in bookings]
            self.assertEqual(rows, tuple(tuple(row) for row in wanted))
            # Just this breaks it: more is due at this beat than goes out.
            due_here = sum(row[beat - d] if d <= beat else 0 for row, (_, _, d) in zip(rows, bookings))
            self.assertGreater(due_here, min(told))
        self.assertGreater(min(seen.values()), 5)

    def test_far_beats(self):
        # 1000 letters at once, then as many as the gate takes but for one in 60 more.
        slow, quick = line(1000, 59, 60), line(1000, 60, 59)
        self.assertEqual(breaking((1,), [("a", flat(1000), 300)])[0], 301)
        self.assertTrue(all_kept((10,), [("a", slow, 100)]))
        self.assertFalse(all_kept((1,), [("a", quick, 300)]))
        creeping = [("a", line(1, 60, 59), 10)]
        beat = breaking((1,), creeping)[0]
        due, gate = plain_due(creeping, 900), plain_gate((1,), 900)
        self.assertEqual(beat, [t for t in range(900) if due[t] > gate[t]][0])
        self.assertEqual(breaking((1,), [("a", line(1, 25, 24), 40)])[0], 1000)
        self.assertEqual(len(breaking((1,), [("a", line(1, 25, 24), 40)])[2][0]), 1001)
        self.too_many(1000, breaking, (1,), [("a", line(1, 11, 10), 91)])
        self.assertFalse(all_kept((1,), [("a", line(1, 60, 59), 300)]))
        self.too_many(1000, breaking, (1,), [("a", line(1, 60, 59), 300)])

    def test_too_many(self):
        self.too_many(4000, due_curve, [("a", two_parts(64, 10), 0)])
        self.too_many(4000, due_curve, [("a", two_parts(63, 10), 100)])
        self.assertEqual(len(due_curve([("a", two_parts(63, 10), 31)]).start), 4000)
        self.too_many(4000, due_curve, [("a", two_parts(63, 10), 32)])
        pair = [("a", line(1, 1, 59), 1), ("b", line(1, 1, 60), 1)]
        self.assertEqual(due_curve(pair).period, 3540)
        self.too_many(4000, all_kept, (1,) * 6 + (2,), pair)
        self.too_many(4000, due_curve, pair + [("c", line(1, 1, 58), 1)])

    def test_refuses(self):
        for thing in NO_BOOKINGS:
            self.refuses(BadBookings, due_curve, thing)
            self.refuses(BadBookings, all_kept, (1,), thing)
            self.refuses(BadBookings, breaking, (1,), thing)
        for table in NO_TABLES:
            self.refuses(BadTimetable, all_kept, table, None)
            self.refuses(BadTimetable, breaking, table, None)


if __name__ == "__main__":
    unittest.main()
