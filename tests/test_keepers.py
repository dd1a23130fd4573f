"""[78]: keepers."""

import unittest

from worstwait.curves import Curve, flat, line
from worstwait.errors import (BadBooking, BadKeeper, BadNumber, BadPages, BadTimetable, NotNow, TooMany)
from worstwait.keepers import Keeper, fallen_pages
from worstwait.pages import page_bytes
from tests.plain import NO_NUMBERS, Case, Lots
from tests.test_bookings import NO_BOOKINGS
from tests.test_gates import NO_TABLES
from tests.test_morebookings import kept

A = Curve([0, 1, 1, 2], 2, 1)
TOP = 2 ** 32 - 1
EMPTY = [[0] * 64, [0] * 64]


def face(keeper):
    return keeper.table, keeper.room, keeper.number, list(keeper.bookings), keeper.pages


class Keepers(Case):
    def test_empty_disk(self):
        for pages in (EMPTY, tuple(tuple(page) for page in EMPTY), [(0,) * 64, [0] * 64]):
            keeper = Keeper((2, 0), 64, pages)
            self.assertEqual(face(keeper), ((2, 0), 64, 0, [], ((0,) * 64, (0,) * 64)))
            self.assertIs(type(keeper.bookings), list)
            self.assertTrue(all(type(page) is tuple for page in keeper.pages))

    def test_ask_and_drop(self):
        keeper = Keeper((2, 0), 64, EMPTY)
        self.assertIs(keeper.ask("b", A, 1), True)
        self.assertEqual(keeper.bookings, [("b", A, 1)])
        self.assertEqual(keeper.pages, ((0,) * 64, page_bytes(64, 1, [("b", A, 1)])))
        self.assertIs(keeper.ask(name="a", promise=A, deadline=1), True)
        both = [("a", A, 1), ("b", A, 1)]
        self.assertEqual(face(keeper), ((2, 0), 64, 2, both, (page_bytes(64, 2, both),
                                                             page_bytes(64, 1, [("b", A, 1)]))))
        before = face(keeper)
        self.assertIs(keeper.ask("c", A, 1), False)
        self.assertEqual(face(keeper), before)
        self.assertIsNone(keeper.drop(name="b"))
        self.assertEqual((keeper.number, keeper.bookings), (3, [("a", A, 1)]))
        self.assertEqual(keeper.pages[1], page_bytes(64, 3, [("a", A, 1)]))
        self.assertEqual(keeper.pages[0], page_bytes(64, 2, both))

    def test_refused_deeds_change_nothing(self):
        keeper = Keeper((2, 0), 64, EMPTY)
        keeper.ask("a", A, 1)
        before = face(keeper)
        for thing in NO_BOOKINGS:
            if isinstance(thing, list) and len(thing) == 1 and len(thing[0]) == 3:
                if isinstance(thing[0], tuple):
                    self.refuses(BadBooking, keeper.ask, *thing[0])
        self.refuses(BadBooking, keeper.ask, "a", A, True)
        self.refuses(NotNow, keeper.ask, "a", flat(1), 5)
        for name in NO_NUMBERS + ("b", "", ["a"], ("a",), b"a", {}):
            self.refuses(NotNow, keeper.drop, name)
        self.assertEqual(face(keeper), before)

    def test_twelve(self):
        keeper = Keeper((12,), 1000, [[0] * 1000] * 2)
        for name in "lkjihgfedcba":
            self.assertIs(keeper.ask(name, flat(1), 300), True)
        self.assertEqual([booking[0] for booking in keeper.bookings], list("abcdefghijkl"))
        self.refuses(NotNow, keeper.ask, "m", flat(1), 300)
        self.refuses(NotNow, keeper.ask, "m", flat(10 ** 9), 0)
        self.refuses(BadBooking, keeper.ask, "M", flat(1), 300)
        keeper.drop("e")
        self.assertIs(keeper.ask("m", flat(1), 300), True)

    def test_room(self):
        keeper = Keeper((9,), 16, [[0] * 16] * 2)
        before = face(keeper)
        self.too_many(16, keeper.ask, "a", flat(1), 1)
        self.assertIs(keeper.ask("a", flat(100), 1), False)
        self.assertEqual(face(keeper), before)
        self.refuses(NotNow, fallen_pages, keeper, 0)

    def test_last_number(self):
        one = page_bytes(64, TOP - 1, [("a", flat(1), 1)])
        keeper = Keeper((9,), 64, (one, [7] * 64))
        self.assertIs(keeper.ask("b", flat(1), 1), True)
        self.assertEqual(keeper.number, TOP)
        before = face(keeper)
        self.too_many(TOP, keeper.ask, "c", flat(1), 1)
        self.too_many(TOP, keeper.ask, "c", line(1, 1, 60), 1)
        self.too_many(TOP, keeper.drop, "a")
        self.assertIs(keeper.ask("c", flat(1000), 1), False)
        self.assertEqual(face(keeper), before)

    def test_which_page_counts(self):
        a, b = [("a", flat(1), 1)], [("b", flat(1), 1)]
        two, three, four = page_bytes(64, 2, a), page_bytes(64, 3, b), page_bytes(64, 4, b)
        self.assertEqual(Keeper((1,), 64, [two, three]).bookings, b)
        self.assertEqual(Keeper((1,), 64, [four, page_bytes(64, 3, a)]).number, 4)
        self.assertEqual(Keeper((1,), 64, [two, [5] * 64]).bookings, a)
        self.assertEqual(Keeper((1,), 64, [[5] * 64, three]).bookings, b)
        # A page at the other place does not count.
        self.assertEqual(Keeper((1,), 64, [two, four]).bookings, a)
        self.refuses(BadPages, Keeper, (1,), 64, [three, four])
        self.refuses(BadPages, Keeper, (1,), 64, [three, (0,) * 64])
        # What the greater number tells must be kept, whatever the lesser one tells.
        self.refuses(BadPages, Keeper, (0,), 64, [page_bytes(64, 2, []), three])
        self.assertEqual(Keeper((0,), 64, [four, page_bytes(64, 5, [])]).bookings, [])

    def test_bad_pages(self):
        for pages in (None, [], [[0] * 64], [[0] * 64] * 3, [[0] * 63, [0] * 64], [[0] * 64, [0] * 65],
                      [[0] * 64, None], [None, [0] * 64], [[1] * 64] * 2, "ab", {0: [0] * 64}, 7,
                      [bytes(64), bytes(64)], [[False] * 64, [0] * 64]):
            self.refuses(BadPages, Keeper, (1,), 64, pages)

    def test_the_other_page_has_bytes_too(self):
        for page in ([0] * 63, None, [256] * 64, [True] * 64, [-1] * 64, ["a"] * 64, bytes(64), "a" * 64):
            self.refuses(BadPages, Keeper, (1,), 64, [[0] * 64, page])

    def test_refuses(self):
        for table in NO_TABLES:
            self.refuses(BadTimetable, Keeper, table, 0, None)
        for room in NO_NUMBERS + (15, 65537):
            self.refuses(BadNumber, Keeper, (1,), room, None, part="room")
        self.assertEqual(Keeper((1,), 65536, [[0] * 65536] * 2).room, 65536)

    def test_equal_to_no_other_kind(self):
        self.assertFalse(Keeper((1,), 64, EMPTY) == ((1,), 64, EMPTY))


class Falls(Case):
    def test_each_cut(self):
        keeper = Keeper((2, 0), 64, EMPTY)
        deeds = [("ask", "b", A, 1), ("ask", "a", A, 2), ("drop", "b"), ("ask", "cc", flat(1), 4), ("drop", "a")]
        for word, *told in deeds:
            before = list(keeper.bookings), keeper.number
            getattr(keeper, word)(*told)
            after = face(keeper)
            for cut in range(65):
                pages = fallen_pages(keeper, cut)
                self.assertIs(type(pages), tuple)
                self.assertTrue(all(type(page) is tuple and len(page) == 64 for page in pages))
                found = Keeper((2, 0), 64, pages)
                wanted = before if cut < 64 else (after[3], after[2])
                self.assertEqual((found.bookings, found.number), wanted)
            self.assertEqual(face(keeper), after)

    def test_bytes(self):
        keeper = Keeper((9,), 40, [page_bytes(40, 4, [("a", flat(1), 1)]), [200] * 40])
        keeper.drop("a")
        page = page_bytes(40, 5, [])
        for cut in range(41):
            self.assertEqual(fallen_pages(keeper, cut), (keeper.pages[0], page[:cut] + (200,) * (40 - cut)))

    def test_deeds_and_falls(self):
        lots = Lots(131)
        table = (3, 0, 1)
        for _ in range(25):
            keeper = Keeper(table, 120, [[0] * 120] * 2)
            there = {}
            for _ in range(12):
                name = lots.of("abcde")
                before = dict(there)
                number = keeper.number
                try:
                    if lots.below(3) == 0:
                        keeper.drop(name)
                        del there[name]
                    else:
                        promise, deadline = lots.of([flat(1), flat(2), A, line(1, 1, 4)]), lots.below(7)
                        further = sorted(list(there.values()) + [(name, promise, deadline)], key=lambda b: b[0])
                        if keeper.ask(name, promise, deadline):
                            there[name] = name, promise, deadline
                            self.assertTrue(kept(table, further))
                        else:
                            self.assertFalse(kept(table, further))
                except (NotNow, TooMany):
                    self.assertEqual(keeper.number, number)
                    continue
                if keeper.number > number and lots.below(3) == 0:
                    cut = lots.of([0, 1, 2, 60, 118, 119, 120])
                    keeper = Keeper(table, 120, fallen_pages(keeper, cut))
                    there = before if cut < 120 else there
                self.assertEqual(keeper.bookings, [there[name] for name in sorted(there)])

    def test_refuses(self):
        keeper = Keeper((9,), 64, EMPTY)
        for thing in (None, 3, "keeper", EMPTY):
            self.refuses(BadKeeper, fallen_pages, thing, -1)
        self.refuses(NotNow, fallen_pages, keeper, -1)
        keeper.ask("a", flat(1), 1)
        for cut in NO_NUMBERS + (-1, 65):
            self.refuses(BadNumber, fallen_pages, keeper, cut, part="cut")
        self.refuses(NotNow, fallen_pages, Keeper((9,), 64, fallen_pages(keeper, 64)), 0)


if __name__ == "__main__":
    unittest.main()
