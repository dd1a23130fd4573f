"""[77]: further bookings, timetables added up."""

import unittest

from worstwait.bookings import all_kept
from worstwait.closures import closure
from worstwait.curves import Curve, flat, line
from worstwait.errors import BadBookings, BadNumber, BadPromise, BadTimetable
from worstwait.gates import gate_curve
from worstwait.joined import raised
from worstwait.morebookings import added, least_deadline, most_times
from tests.plain import NO_NUMBERS, Case, Lots, numbers
from tests.test_bookings import NO_BOOKINGS, plain_due, plain_gate, some_bookings
from tests.test_gates import NO_TABLES, some_table

BIG = 10 ** 9
NO_PROMISES = (None, 3, [0, 1], flat(None), Curve([0, None], 1, 0), raised(flat(BIG), 1), ("a", flat(0), 0))


def kept(table, bookings, beats=100):
    """Whether in the first beats no more is due than goes out, as [74] tells it."""
    return all(x <= y for x, y in zip(plain_due(bookings, beats), plain_gate(table, beats)))


def breaks_far_out(table, bookings, beats=6000):
    """Whether in many beats more is due than goes out; closures are tested elsewhere."""
    due = [0] * beats
    for _, promise, deadline in bookings:
        row = [0] * deadline + numbers(closure(promise), beats)
        due = [one + two for one, two in zip(due, row)]
    least = numbers(gate_curve(table), beats)
    return any(one > two for one, two in zip(due, least))


class LeastDeadline(Case):
    def test_least(self):
        lots = Lots(91)
        seen = 0
        for _ in range(60):
            table, bookings = some_table(lots, 4, 6), some_bookings(lots, lots.below(3))
            promise = some_bookings(lots, 1)[0][1]
            found = least_deadline(table, bookings, promise)
            if found is None:
                self.assertTrue(breaks_far_out(table, bookings + [("q", promise, 300)]))
                continue
            seen += 1
            for deadline in {0, max(0, found - 1), found, found + 1, 300}:
                further = bookings + [("q", promise, deadline)]
                self.assertEqual(all_kept(table, further), deadline >= found)
                self.assertEqual(not breaks_far_out(table, further), deadline >= found)
        self.assertGreater(seen, 20)

    def test_edges(self):
        self.assertEqual(least_deadline((0,), [], flat(0)), 0)
        self.assertIsNone(least_deadline((0,), [], flat(1)))
        self.assertEqual(least_deadline((1,), [], flat(301)), 300)
        self.assertIsNone(least_deadline((1,), [], flat(302)))
        self.assertIsNone(least_deadline((0, 1), [("a", flat(5), 0)], flat(0)))
        twelve = [("abcdefghijkl"[k], flat(1), 11) for k in range(12)]
        self.assertEqual(least_deadline((1,), twelve, flat(1)), 12)
        self.assertEqual(least_deadline((0, 2), (), line(1, 1, 2)), 1)

    def test_refuses(self):
        for table in NO_TABLES:
            self.refuses(BadTimetable, least_deadline, table, None, None)
        for bookings in NO_BOOKINGS:
            self.refuses(BadBookings, least_deadline, (1,), bookings, None)
        for promise in NO_PROMISES:
            self.refuses(BadPromise, least_deadline, (1,), [], promise)


class MostTimes(Case):
    def test_most(self):
        lots = Lots(92)
        seen = 0
        for _ in range(60):
            table, bookings = some_table(lots, 4, 15), some_bookings(lots, lots.below(3))
            promise, deadline = some_bookings(lots, 1)[0][1], lots.below(8)
            found = most_times(table, bookings, promise, deadline)
            if found is None:
                self.assertFalse(all_kept(table, bookings))
                continue
            self.assertTrue(kept(table, bookings))
            if found < 10 ** 6:
                seen += found > 0
                self.assertTrue(kept(table, bookings + [("q", promise, deadline)] * found))
                more = bookings + [("q", promise, deadline)] * (found + 1)
                self.assertTrue(breaks_far_out(table, more))
        self.assertGreater(seen, 10)

    def test_edges(self):
        self.assertEqual(most_times((1,), [], flat(0), 0), 10 ** 6)
        self.assertEqual(most_times((5,), [], line(0, 1, 1), 0), 5)
        self.assertEqual(most_times((BIG,), [], line(0, 1, 1), 1), 10 ** 6)
        self.assertEqual(most_times((999999,), [], line(0, 1, 1), 1), 999999)
        self.assertIsNone(most_times((0,), [("a", flat(1), 5)], flat(0), 0))
        twelve = [("abcdefghijkl"[k], flat(1), 12) for k in range(12)]
        self.assertEqual(most_times((1,), twelve, flat(1), 20), 9)

    def test_refuses(self):
        for table in NO_TABLES:
            self.refuses(BadTimetable, most_times, table, None, None, None)
        for bookings in NO_BOOKINGS:
            self.refuses(BadBookings, most_times, (1,), bookings, None, None)
        for promise in NO_PROMISES:
            self.refuses(BadPromise, most_times, (1,), [], promise, None)
        for wrong in NO_NUMBERS + (-1, 301):
            self.refuses(BadNumber, most_times, (1,), [], flat(0), wrong, part="deadline")


class Added(Case):
    def test_sums(self):
        lots = Lots(93)
        for _ in range(60):
            one, two = some_table(lots, 7), some_table(lots, 7)
            told = added(one, two)
            self.assertIs(type(told), tuple)
            for beat in range(120):
                wanted = one[beat % len(one)] + two[beat % len(two)]
                self.assertEqual(told[beat % len(told)], wanted)
            wanted = [many for many in range(1, 61) if many % len(one) == 0 and many % len(two) == 0]
            self.assertEqual(len(told), wanted[0])

    def test_all_kept_together(self):
        lots = Lots(94)
        seen = 0
        for _ in range(80):
            one, two = some_table(lots, 4, 9), some_table(lots, 4, 9)
            mine = some_bookings(lots, 1)
            its = [("b",) + booking[1:] for booking in some_bookings(lots, 1)]
            if all_kept(one, mine) and all_kept(two, its):
                seen += 1
                self.assertTrue(all_kept(added(one, two), mine + its))
        self.assertGreater(seen, 10)

    def test_refuses(self):
        for table in NO_TABLES:
            self.refuses(BadTimetable, added, table, (1,))
            self.refuses(BadTimetable, added, (1,), table)
        self.assertEqual(len(added((1,) * 60, (1,) * 30)), 60)
        self.too_many(60, added, (BIG,) * 60, (1,) * 59)
        self.too_many(60, added, (1,) * 7, (1,) * 9)
        self.too_many(BIG, added, (BIG,), (1,))
        self.too_many(BIG, added, (0, BIG), (0, 0, 1))
        self.assertEqual(added((0, BIG), (1, 0)), (1, BIG))


if __name__ == "__main__":
    unittest.main()
