"""[78]: pages."""

import unittest

from worstwait.bookings import is_bookings
from worstwait.curves import Curve, flat, line
from worstwait.errors import BadBookings, BadNumber
from worstwait.pages import page_bytes, page_read
from tests.plain import NO_NUMBERS, Case, Lots
from tests.test_bookings import NO_BOOKINGS, some_bookings

BIG = 10 ** 9
TOP = 2 ** 32 - 1


def lowest_first(number, many):
    return list(number.to_bytes(many, "little"))


def plain_page(room, number, bookings):
    """The bytes in the words of [78]; None if they do not go into the room."""
    told = lowest_first(number, 4) + [len(bookings)]
    for name, promise, deadline in sorted(bookings, key=lambda booking: booking[0]):
        told += [len(name)] + list(name.encode("ascii")) + lowest_first(deadline, 2)
        told += lowest_first(len(promise.start), 2) + [promise.period] + lowest_first(promise.growth, 4)
        for one in promise.start:
            told += lowest_first(TOP if one is None else one, 4)
    if len(told) + 4 > room:
        return None
    return tuple(told + [0] * (room - 4 - len(told)) + list(number.to_bytes(4, "big")))


A = Curve([0, 1, 1, 2], 2, 1)
SOME = [("ab", A, 300), ("a" * 12, Curve([7, BIG, None], 1, 0), 0), ("z", line(3, 99999, 7), 255),
        ("b", Curve([0] * 59 + [1], 60, 1), 256)]


class Pages(Case):
    def test_bytes(self):
        lots = Lots(121)
        for _ in range(80):
            bookings = some_bookings(lots, lots.below(5))
            number = lots.of([0, 1, 255, 256, 65535, TOP - 1, TOP, lots.below(2 ** 32)])
            told = page_bytes(300, number, bookings)
            self.assertEqual(told, plain_page(300, number, bookings))
            self.assertIs(type(told), tuple)
            wanted = sorted(bookings, key=lambda booking: booking[0])
            for thing in (told, list(told)):
                self.assertEqual(page_read(thing), (number, wanted))
        self.assertEqual(page_bytes(4000, TOP, SOME), plain_page(4000, TOP, SOME))

    def test_by_hand(self):
        self.assertEqual(page_bytes(16, 258, []), (2, 1, 0, 0) + (0,) * 8 + (0, 0, 1, 2))
        told = page_bytes(40, 1, [("ab", Curve([3, 3, None], 1, 0), 258)])
        self.assertEqual(told[:31], (1, 0, 0, 0, 1, 2, 97, 98, 2, 1, 3, 0, 1, 0, 0, 0, 0, 3, 0, 0, 0,
                                     3, 0, 0, 0, 255, 255, 255, 255, 0, 0))
        self.assertEqual(told[-4:], (0, 0, 0, 1))

    def test_room(self):
        twelve = [("abcdefghijkl"[k] * 12, Curve([0] * 399 + [BIG], 1, 0), k) for k in range(12)]
        bare = 5 + sum(1 + 12 + 2 + 2 + 1 + 4 + 4 * 400 for _ in twelve) + 4
        for bookings, room in (([], 16), (SOME, None), (twelve, bare)):
            if bookings is SOME:
                room = min(many for many in range(16, 4000) if plain_page(many, 7, SOME))
            self.assertEqual(page_bytes(room, 7, bookings), plain_page(room, 7, bookings))
            self.assertEqual(page_read(page_bytes(room, 7, bookings))[0], 7)
            if room > 16:
                self.too_many(room - 1, page_bytes, room - 1, 7, bookings)
        self.too_many(16, page_bytes, 16, 0, [("a", flat(0), 0)])
        self.assertEqual(len(page_bytes(65536, TOP, twelve)), 65536)
        self.assertEqual(page_read(page_bytes(65536, TOP, twelve))[0], TOP)

    def test_what_is_no_page(self):
        page = page_bytes(200, 5, SOME[:2])
        for thing in (None, 3, "page", bytes(page), [], page[:-1], page + (0,), (0,) * 15, (0,) * 65537,
                      [True] + list(page[1:]), page[:-1] + (5.0,), page[:-1] + (256,), (-1,) + page[1:],
                      {0: 1}, [[0]] * 16, page[:-1] + (None,)):
            self.assertIsNone(page_read(thing))
        self.assertEqual(page_read((0,) * 16), (0, []))
        self.assertEqual(page_read([0] * 65536), (0, []))

    def test_lists_too_short_and_too_long(self):
        for many in (0, 1, 15, 65537, 70000):
            for thing in ([0] * many, (0,) * many):
                self.assertIsNone(page_read(thing))
        for many in (15, 65537):
            for odd in (True, False, 256, -1, None, 0.0):
                for place in (0, many // 2, many - 1):
                    row = [0] * many
                    row[place] = odd
                    self.assertIsNone(page_read(row))

    def test_least_and_greatest_room(self):
        for room in (16, 65536):
            for number in (0, 7, TOP):
                page = page_bytes(room, number, [])
                self.assertEqual(page, plain_page(room, number, []))
                self.assertEqual(page_read(page), (number, []))
                self.assertEqual(page_read(list(page)), (number, []))
                for odd in (True, False, 256, -1, None, 0.0, 1.0, "0", 10 ** 30, 1):
                    for place in (0, 1, 4, 5, room // 2, room - 5, room - 2, room - 1):
                        row = list(page)
                        row[place] = odd
                        # It is one only if what was put there was there.
                        wanted = (number, []) if type(odd) is int and page[place] == odd else None
                        self.assertEqual(page_read(row), wanted)

    def test_odd_ones_within_bookings(self):
        page = page_bytes(65536, 256, [("ab", A, 1), ("b", Curve([0] * 399 + [1], 1, 0), 256)])
        self.assertEqual(page_read(page)[0], 256)
        for place in list(range(0, 60, 1)) + [1000, 1600, 1660, 1700, 65531, 65533, 65535]:
            for odd in (bool(page[place]), float(page[place]), page[place] + 256, page[place] - 256, None):
                row = list(page)
                row[place] = odd
                self.assertIsNone(page_read(row))

    def test_each_byte_counts(self):
        page = list(page_bytes(120, 5, [("ab", A, 3), ("c", Curve([1, 2, None], 1, 0), 2)]))
        for place in range(120):
            for other in {0, 1, 2, 96, 97, 255, (page[place] + 1) % 256} - {page[place]}:
                told = page_read(page[:place] + [other] + page[place + 1:])
                if told is not None:
                    self.assertTrue(is_bookings(told[1]))
                    again = page_bytes(120, *told)
                    self.assertEqual(list(again), page[:place] + [other] + page[place + 1:])
        for place in (0, 1, 2, 3, 116, 117, 118, 119, 100):
            self.assertIsNone(page_read(page[:place] + [9] + page[place + 1:]))

    def test_the_one_form_alone(self):
        # A sequence of names, a form of a curve, a name that page_bytes never writes.
        one, two = page_bytes(60, 0, [("a", flat(1), 0)])[5:20], page_bytes(60, 0, [("b", flat(1), 0)])[5:20]
        zeros = (0,) * 4

        def page(many, *rows):
            told = zeros + (many,) + tuple(byte for row in rows for byte in row)
            return told + (0,) * (60 - 4 - len(told)) + zeros
        self.assertIsNotNone(page_read(page(2, one, two)))
        self.assertIsNone(page_read(page(2, two, one)))
        self.assertIsNone(page_read(page(2, one, one)))
        self.assertIsNone(page_read(page(1, one, two)))
        for byte in (0, 65, 96, 123, 255):
            self.assertIsNone(page_read(page(1, one[:1] + (byte,) + one[2:])))
        self.assertIsNone(page_read(page(1, (0,) + one[2:])))
        longer = (1, 97, 0, 0, 2, 0, 1, 0, 0, 0, 0) + (1, 0, 0, 0) * 2
        self.assertIsNone(page_read(page(1, longer)))
        falling = (1, 97, 0, 0, 2, 0, 1, 0, 0, 0, 0) + (2, 0, 0, 0) + (1, 0, 0, 0)
        self.assertIsNone(page_read(page(1, falling)))
        late = (1, 97, 45, 1) + one[4:]
        self.assertIsNone(page_read(page(1, late)))
        self.assertIsNotNone(page_read(page(1, (1, 97, 44, 1) + one[4:])))
        self.assertIsNone(page_read(page(13)))

    def test_refuses(self):
        for room in NO_NUMBERS + (15, 65537, -1):
            self.refuses(BadNumber, page_bytes, room, -1, None, part="room")
        for number in NO_NUMBERS + (-1, TOP + 1):
            self.refuses(BadNumber, page_bytes, 16, number, None, part="number")
        for thing in NO_BOOKINGS:
            self.refuses(BadBookings, page_bytes, 16, 0, thing)


if __name__ == "__main__":
    unittest.main()
