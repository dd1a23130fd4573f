"""[76]: bookings at a gate by rank."""

import unittest
from itertools import permutations, product

from worstwait.bookings import all_kept, breaking
from worstwait.closures import closure
from worstwait.curves import Curve, flat, line
from worstwait.earliest import is_way_out, missed
from worstwait.errors import BadBookings, BadNumber, BadRows, BadTimetable
from worstwait.rankings import ranks_breaking, ranks_kept, ranks_order, ranks_run
from worstwait.traffics import is_row, traffic_of
from tests.plain import NO_NUMBERS, Case, Lots, numbers
from tests.test_bookings import NO_BOOKINGS, some_bookings
from tests.test_closures import two_parts
from tests.test_earliest import NO_LISTS, some_rows
from tests.test_gates import NO_TABLES, some_table
from tests.test_promises import plain_breach, plain_row
from tests.test_rests import kept_traffic

BIG = 10 ** 9


def plain_ranks(table, phase, rows):
    """Letter by letter: each beat as many letters as can, those of the first rows first."""
    heaps = [0] * len(rows)
    told = [[0] for _ in rows]
    for beat in range(len(rows[0]) - 1):
        heaps = [heap + row[beat + 1] - row[beat] for heap, row in zip(heaps, rows)]
        for _ in range(table[(phase + beat) % len(table)]):
            full = [place for place, heap in enumerate(heaps) if heap]
            if full:
                heaps[full[0]] -= 1
        for way, row, heap in zip(told, rows, heaps):
            way.append(row[beat + 1] - heap)
    return told


def kept_greedily(table, bookings, beats=60):
    """Whether none misses within so many beats, at all phases, if all send all they can."""
    if not bookings:
        return True
    rows = [numbers(closure(booking[1]), beats + 1) for booking in bookings]
    deadlines = [booking[2] for booking in bookings]
    return all(missed(rows, plain_ranks(table, phase, rows), deadlines) is None for phase in range(len(table)))


def told_or_none(call, *args):
    """The answer, or None if it is TooMany."""
    from worstwait.errors import TooMany
    try:
        return call(*args)
    except TooMany:
        return None


class Runs(Case):
    def test_letter_by_letter(self):
        lots = Lots(291)
        for _ in range(150):
            table = some_table(lots)
            rows = some_rows(lots, 1 + lots.below(4), lots.below(12))
            phase = lots.below(len(table))
            told = ranks_run(table, phase, tuple(rows))
            self.assertIs(type(told), list)
            self.assertEqual([list(way) for way in told], plain_ranks(table, phase, rows))
            self.assertTrue(is_way_out(table, phase, rows, told))
        self.assertEqual([list(way) for way in ranks_run((5, 9), 1, [[0, 8], [0, 8]])], [[0, 8], [0, 1]])
        self.assertEqual([list(way) for way in ranks_run((1,), 0, [[0]] * 12)], [[0]] * 12)
        self.assertEqual(ranks_run((BIG,), 0, [[0] + [10 ** 30] * 1000])[0][1000], BIG * 1000)


class Kept(Case):
    def test_kept(self):
        lots = Lots(292)
        seen = {True: 0, False: 0, None: 0}
        for _ in range(250):
            table = some_table(lots, 4, 6)
            bookings = some_bookings(lots, lots.below(4))
            told = told_or_none(ranks_kept, table, bookings)
            seen[told] += 1
            if told is not None:
                # So short curves break within few beats, if they do.
                self.assertIs(told, kept_greedily(table, bookings, 120))
                self.assertIs(ranks_breaking(table, bookings) is None, told)
            else:
                self.too_many(1000, ranks_breaking, table, bookings)
            if told:
                self.assertTrue(all_kept(table, bookings))
        self.assertTrue(seen[True] > 30 and seen[False] > 30)

    def test_breaking_shows_it(self):
        lots = Lots(293)
        shown = 0
        while shown < 80:
            table = some_table(lots, 4, 5)
            bookings = some_bookings(lots, 1 + lots.below(4))
            found = told_or_none(ranks_breaking, table, bookings)
            if found is None:
                continue
            shown += 1
            place, phase, rows = found
            self.assertTrue(type(found) is tuple and type(rows) is tuple and len(rows) == len(bookings))
            for row, booking in zip(rows, bookings):
                self.assertTrue(is_row(row) and type(row) is tuple and len(row) == len(rows[0]))
                self.assertIsNone(plain_breach(plain_row(traffic_of(row)), booking[1]))
            ways = plain_ranks(table, phase, rows)
            self.assertIsNotNone(missed([rows[place]], [ways[place]], [bookings[place][2]]))

    def test_all_that_keeps_the_promises(self):
        lots = Lots(294)
        done = 0
        while done < 40:
            table = some_table(lots, 3, 5)
            bookings = some_bookings(lots, 1 + lots.below(3))
            if not told_or_none(ranks_kept, table, bookings):
                continue
            done += 1
            for _ in range(5):
                rows = [plain_row((kept_traffic(lots, one[1], 14) + [0] * 14)[:14]) for one in bookings]
                for phase in range(len(table)):
                    ways = ranks_run(table, phase, rows)
                    self.assertIsNone(missed(rows, ways, [one[2] for one in bookings]))

    def test_exactly_by_all_traffics(self):
        # One and two bookings of few letters: all traffics of 5 beats, at all phases.
        lots = Lots(295)
        promises = (flat(1), line(0, 1, 2), flat(2), Curve([0, 1, 1, 2], 3, 2))
        kept = [[row for row in product(range(3), repeat=5) if plain_breach(plain_row(row), promise) is None]
                for promise in promises]
        for _ in range(40):
            table = some_table(lots, 3, 3)
            one, two = lots.below(4), lots.below(4)
            bookings = [("b", promises[one], lots.below(3)), ("a", promises[two], lots.below(3))]
            if told_or_none(ranks_kept, table, bookings) is None:
                continue
            told = ranks_breaking(table, bookings)
            if told is not None and len(told[2][0]) > 6:
                continue
            breaks = False
            for first, second in product(kept[one], kept[two]):
                rows = [plain_row(first), plain_row(second)]
                for phase in range(len(table)):
                    if missed(rows, plain_ranks(table, phase, rows), [bookings[0][2], bookings[1][2]]) is not None:
                        breaks = True
                        break
                if breaks:
                    break
            self.assertIs(breaks, told is not None)

    def test_the_sequence_counts(self):
        one, two = ("a", flat(1), 5), ("b", flat(1), 0)
        self.assertFalse(ranks_kept((1,), [one, two]))
        self.assertTrue(ranks_kept((1,), [two, one]))
        self.assertTrue(ranks_kept((1,), (two, one)))
        place, phase, rows = ranks_breaking((1,), [one, two])
        self.assertEqual((place, phase), (1, 0))

    def test_none_and_12(self):
        self.assertTrue(ranks_kept((0,), []))
        self.assertIsNone(ranks_breaking((0,), ()))
        twelve = [("abcdefghijkl"[k], flat(1), k) for k in range(12)]
        self.assertTrue(ranks_kept((1,), twelve))
        self.assertFalse(ranks_kept((1,), twelve[1:] + twelve[:1]))
        self.assertEqual(ranks_order((1,), twelve[::-1]), tuple("abcdefghijkl"))

    def test_deadlines_of_300(self):
        self.assertTrue(ranks_kept((1,), [("a", flat(301), 300)]))
        self.assertFalse(ranks_kept((1,), [("a", flat(302), 300)]))
        place, phase, rows = ranks_breaking((1,), [("a", flat(302), 300)])
        self.assertEqual(missed(rows, plain_ranks((1,), phase, rows), [300]), (301, 0))
        self.assertFalse(ranks_kept((0,), [("a", flat(1), 300)]))
        self.assertTrue(ranks_kept((0,), [("a", flat(0), 0)]))
        self.assertEqual(breaking((0,), [("a", flat(1), 300)])[0], 301)

    def test_1000_beats_in_which_letters_are_left(self):
        # n letters more go out than come once n // 3, or n // 4, rounded up, is the burst.
        just, over = ("a", line(334, 29, 3), 300), ("a", line(251, 39, 4), 300)
        self.assertEqual((self.busy(just[1]), self.busy(over[1])), (1000, 1001))
        self.assertTrue(ranks_kept((10,), [just]))
        self.assertIsNone(ranks_breaking((10,), [just]))
        self.assertEqual(ranks_order((10,), [just]), ("a",))
        for call in (ranks_kept, ranks_breaking, ranks_order):
            self.too_many(1000, call, (10,), [over])
            self.too_many(1000, call, (1,), [("a", line(5, 1, 1), 9)])
        # A booking looked at ahead of it, or a phase, that misses; one behind it.
        self.assertFalse(ranks_kept((10,), [("b", flat(11), 0), over]))
        self.too_many(1000, ranks_kept, (10,), [over, ("b", flat(11), 0)])
        self.assertFalse(ranks_kept((10,), [("a", line(251, 39, 4), 0)]))
        # As the last one "a" is looked at first.
        self.too_many(1000, ranks_order, (10,), [("b", flat(11), 0), over])
        self.assertIsNone(ranks_order((10,), [("b", over[1], 300), ("a", flat(11), 0), ("c", flat(11), 0)][1:]))
        # What is left of others ahead counts, too.
        idle = ("c", flat(0), 0)
        self.assertTrue(ranks_kept((10,), [idle, just]))
        self.assertFalse(ranks_kept((10,), [just, ("c", line(3, 0, 1), 300)]))
        self.too_many(1000, ranks_kept, (10,), [("c", line(5, 0, 1), 300), just])

    def busy(self, promise):
        """Behind how many beats none is left at a gate of ten letters a beat."""
        row = numbers(closure(promise), 2000)
        return next(beat for beat in range(1, 2000) if row[beat] <= 10 * beat)


class Orders(Case):
    def test_orders(self):
        lots = Lots(296)
        seen = {True: 0, False: 0}
        for _ in range(160):
            table = some_table(lots, 3, 6)
            bookings = some_bookings(lots, lots.below(4))
            told = [told_or_none(ranks_kept, table, one) for one in permutations(bookings)]
            order = told_or_none(lambda *args: (ranks_order(*args),), table, bookings)
            if None in told or order is None:
                continue
            order = order[0]
            seen[order is None] += 1
            self.assertIs(order is None, not any(told))
            if order is not None:
                self.assertIs(type(order), tuple)
                named = {booking[0]: booking for booking in bookings}
                self.assertTrue(ranks_kept(table, [named[name] for name in order]))
                self.assertEqual(order, self.plain_order(table, bookings))
                self.assertEqual(order, ranks_order(table, bookings[::-1]))
        self.assertTrue(seen[True] > 5 and seen[False] > 5)

    def plain_order(self, table, bookings):
        """From the last one on, each time the least name that is kept with all others ahead."""
        told = []
        left = list(bookings)
        while left:
            for one in sorted(left):
                others = [other for other in left if other[0] != one[0]]
                found = ranks_breaking(table, others + [one]) if kept_greedily(table, others) else None
                rows = [numbers(closure(other[1]), 121) for other in others + [one]]
                ways = [plain_ranks(table, phase, rows)[-1] for phase in range(len(table))]
                if all(missed(rows[-1:], [way], [one[2]]) is None for way in ways):
                    self.assertIsNone(found)
                    told.insert(0, one[0])
                    left = others
                    break
            else:
                return None
        return tuple(told)

    def test_by_hand(self):
        self.assertEqual(ranks_order((1,), []), ())
        self.assertEqual(ranks_order((2,), [("b", flat(1), 0), ("a", flat(1), 0)]), ("b", "a"))
        self.assertEqual(ranks_order((1,), [("b", flat(1), 0), ("a", flat(1), 1)]), ("b", "a"))
        self.assertEqual(ranks_order((1,), [("b", flat(1), 1), ("a", flat(1), 0)]), ("a", "b"))
        self.assertIsNone(ranks_order((1,), [("b", flat(1), 0), ("a", flat(1), 0)]))


class Wrong(Case):
    def test_refuses(self):
        for table in NO_TABLES:
            self.refuses(BadTimetable, ranks_run, table, -1, None)
            for call in (ranks_kept, ranks_breaking, ranks_order):
                self.refuses(BadTimetable, call, table, None)
        for wrong in NO_NUMBERS + (-1, 2):
            self.refuses(BadNumber, ranks_run, (1, 2), wrong, None, part="phase")
        for rows in NO_LISTS:
            self.refuses(BadRows, ranks_run, (1,), 0, rows)
        for thing in NO_BOOKINGS:
            for call in (ranks_kept, ranks_breaking, ranks_order):
                self.refuses(BadBookings, call, (1,), thing)

    def test_closures_of_too_many(self):
        for call in (ranks_kept, ranks_breaking, ranks_order):
            self.too_many(4000, call, (BIG,), [("a", two_parts(64, 10), 0)])


if __name__ == "__main__":
    unittest.main()
