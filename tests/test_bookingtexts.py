"""[82], [83], [85]: texts of bookings and of timetables."""

import unittest

from worstwait.bookings import all_kept, breaking, is_bookings
from worstwait.bookingtexts import bookings_of_text, bookings_text, tail_of_bookings_text, tail_of_timetable_text
from worstwait.bookingtexts import timetable_of_text, timetable_text
from worstwait.curves import Curve, flat, line
from worstwait.curvetexts import curve_text
from worstwait.errors import BadBookings, BadText, BadTimetable
from worstwait.examples import examples
from tests.plain import Case, Lots
from tests.plaintexts import SIGNS, is_beginning, place_of_wrong, plain_tail
from tests.test_bookings import NO_BOOKINGS, some_bookings
from tests.test_curvetexts import blanks, some_text
from tests.test_gates import NO_TABLES, some_table

BIG = 10 ** 9


def some_bookings_text(lots):
    gap = blanks(lots)
    lines = [gap + "bookings" + gap]
    for place in range(lots.below(4)):
        name = lots.of(["a", "b", "keeps", "zz", "bookings", "z" * 12])[:12 - place] + "xyz"[:place]
        text = some_text(lots, 1)[0]
        behind = " " if text.endswith("none") else blanks(lots)
        lines.append(f"{gap}book {name} keeps {text}{behind}within{gap}{lots.below(301)}{gap}")
    return "\n".join(lines)


def some_timetable_text(lots):
    numbers = [str(lots.of([0, 1, 10, 99, BIG, lots.below(BIG)])) for _ in range(1 + lots.below(5))]
    return blanks(lots) + "timetable" + blanks(lots) + lots.of([" ", "  "]).join(numbers) + blanks(lots)


class Bookings(Case):
    def test_there_and_back(self):
        lots = Lots(411)
        for _ in range(100):
            bookings = some_bookings(lots, lots.below(5))
            text = bookings_text(bookings)
            self.assertIs(type(text), str)
            told = bookings_of_text(text)
            self.assertEqual(told, tuple(bookings))
            self.assertTrue(type(told) is tuple and all(type(one) is tuple for one in told))
            self.assertEqual(bookings_text(tuple(bookings)), text)
            lines = ["bookings"] + [f"book {name} keeps {curve_text(promise)} within {deadline}"
                                    for name, promise, deadline in bookings]
            self.assertEqual(text, "\n".join(lines))

    def test_loose_texts(self):
        for text, told in (("bookings", ()), ("  bookings  ", ()),
                           ("bookings \n book a keeps[1]within0", (("a", flat(1), 0),)),
                           ("bookings\nbook within keeps flat 1+flat1within 300 \nbook b keeps line1 1/2within5",
                            (("within", flat(2), 300), ("b", line(1, 1, 2), 5))),
                           ("bookings\nbook b keeps ( [1 ; 1 by 2] ) within 7", (("b", Curve([1], 1, 2), 7),))):
            self.assertEqual(bookings_of_text(text), told)
            self.assertEqual(tail_of_bookings_text(text), "")

    def test_examples(self):
        _, table, text = examples()
        bookings = bookings_of_text(text)
        self.assertEqual(bookings, (("a", line(1, 1, 2), 1), ("b", line(2, 1, 4), 5)))
        self.assertEqual(bookings_text(bookings), text)
        self.assertEqual(timetable_of_text(table), (0, 2))
        self.assertEqual(timetable_text((0, 2)), table)
        self.assertTrue(all_kept(timetable_of_text(table), bookings))
        later = bookings_of_text(text.replace("within 5", "within 4"))
        self.assertFalse(all_kept((0, 2), later))
        self.assertEqual(breaking((0, 2), later)[0], 5)

    def test_by_hand(self):
        one = "bookings\nbook a keeps [1] within 5"
        end = len(one)
        for text, at, tail in (("", 0, "bookings"), ("book", 4, "ings"), ("books", 4, None), ("bookings", None, ""),
                               ("bookings\n", 9, "book a keeps[0]within0"), ("bookings\n\n", 9, None), ("\n", 0, None),
                               ("bookings\nbook", 13, " a keeps[0]within0"), ("bookings\nbook ", 14, "a keeps[0]within0"),
                               ("bookings\nbooka", 13, None), ("bookings\nbook a", 15, " keeps[0]within0"),
                               ("bookings\nbook a k", 17, "eeps[0]within0"), ("bookings\nbook a keeps", 21, "[0]within0"),
                               ("bookings\nbook a keeps flat", 26, "0within0"), (one[:-1], end - 1, "0"), (one, None, ""),
                               ("bookings\nbook a keeps flat none", 31, " within0"), (one[:-1] + "301", end + 1, None),
                               ("bookings\nbook a keeps [1]+", 26, "[0]within0"), (one + "\n", end + 1, "book b keeps[0]within0"),
                               (one + "\nbook a", end + 7, "a keeps[0]within0"), (one + "\nbook a ", end + 7, None),
                               (one + "\nbook b", end + 7, " keeps[0]within0"), (one + " 1", end + 1, None),
                               ("bookings book", 9, None), (one + "\r\n", end, None), ("bookings\tx", 8, None),
                               ("bookings\nbook A", 14, None), ("bookings\nbook " + "a" * 13, 26, None),
                               ("bookings\nbook a1", 15, None), (one + "\nbook aa keeps [2] within 1\nbook a", end + 34,
                                "b keeps[0]within0")):
            self.assertEqual(tail_of_bookings_text(text), tail, text)
            if at is None:
                bookings_of_text(text)
            else:
                self.refuses(BadText, bookings_of_text, text, at=at)

    def test_names_that_are_taken(self):
        twelve = "z" * 12
        one = f"bookings\nbook {twelve} keeps [1] within 5\nbook "
        self.assertEqual(tail_of_bookings_text(one), "a keeps[0]within0")
        self.assertEqual(tail_of_bookings_text(one + "z" * 11), " keeps[0]within0")
        self.assertIsNone(tail_of_bookings_text(one + twelve))
        self.refuses(BadText, bookings_of_text, one + twelve + " keeps [1] within 0", at=len(one) + 11)
        self.refuses(BadText, bookings_of_text, one + "a" * 13, at=len(one) + 12)
        text = "bookings"
        for name in "abcdefghijk":
            text += f"\nbook {name} keeps [1] within 5"
        self.assertEqual(tail_of_bookings_text(text + "\nbook "), "l keeps[0]within0")
        self.assertEqual(tail_of_bookings_text(text + "\nbook c"), "a keeps[0]within0")

    def test_12_and_13(self):
        text = "bookings"
        for name in "lkjihgfedcba":
            text += f"\nbook {name * 12} keeps flat1 within 5"
        told = bookings_of_text(text)
        self.assertEqual([one[0][0] for one in told], list("lkjihgfedcba"))
        self.assertTrue(is_bookings(told))
        self.assertEqual(bookings_of_text(bookings_text(told)), told)
        self.refuses(BadText, bookings_of_text, text + "\n", at=len(text))
        self.refuses(BadText, bookings_of_text, text + "\nbook m keeps [1] within 5", at=len(text))
        self.assertIsNone(tail_of_bookings_text(text + "\n"))
        self.assertEqual(tail_of_bookings_text(text), "")

    def test_each_expression_by_itself(self):
        twenty = "+".join(["[1]"] * 20)
        text = f"bookings\nbook a keeps {twenty} within 5\nbook b keeps {twenty} within 5"
        self.assertEqual(bookings_of_text(text), (("a", flat(20), 5), ("b", flat(20), 5)))
        self.refuses(BadText, bookings_of_text, text.replace(" within 5\n", "+[1] within 5\n"), at=22 + len(twenty))

    def test_no_bookings(self):
        for promise in ("[none]", "[0none]", "later([1],400)", "raised([1000000000],1)", "times([0;1by1000000000],2)",
                        "close([0;1by1]+[0" + " 1" * 61 + "none])+close([0" + " 1" * 61 + "none])"):
            text = f"bookings\nbook a keeps [1] within 0\nbook b keeps {promise} within 1"
            self.refuses(BadBookings, bookings_of_text, text)
            self.assertEqual(tail_of_bookings_text(text), "")

    def test_too_many(self):
        text = "bookings\nbook a keeps [none] within 0\nbook b keeps {} within 1"
        self.too_many(4000, bookings_of_text, text.format("later([0 1],4000)"))
        self.too_many(400, bookings_of_text, text.format("close(later([0 1;1by1],400))"))
        self.refuses(BadText, bookings_of_text, text.format("later([0 1],4000)") + "]", at=77)

    def test_each_beginning(self):
        lots = Lots(412)
        for _ in range(20):
            text = some_bookings_text(lots)
            self.assertIsNone(place_of_wrong(text, "bookings"))
            for many in range(len(text) + 1):
                tail = tail_of_bookings_text(text[:many])
                self.assertIsNone(place_of_wrong(text[:many] + tail, "bookings"))
                self.assertLessEqual((len(tail), tail), (len(text) - many, text[many:]))

    def test_places(self):
        lots = Lots(413)
        seen = 0
        for _ in range(300):
            text = some_bookings_text(lots)
            place = lots.below(len(text) + 1)
            text = lots.of([text[:place] + lots.of(SIGNS) + text[place:], text[:place] + text[place + 1:],
                            text[:place] + lots.of(SIGNS) + text[place + 1:]])
            at = place_of_wrong(text, "bookings")
            self.assertIs(tail_of_bookings_text(text) is None, at is not None and at < len(text))
            if at is not None:
                seen += 1
                self.refuses(BadText, bookings_of_text, text, at=at)
        self.assertGreater(seen, 150)

    def test_tails_step_by_step(self):
        lots = Lots(414)
        for _ in range(12):
            text = some_bookings_text(lots)
            part = text[:lots.below(len(text) + 1)]
            tail = tail_of_bookings_text(part)
            while tail:
                steps = [sign + tail_of_bookings_text(part + sign) for sign in SIGNS
                         if is_beginning(part + sign, "bookings")]
                self.assertEqual(min(steps, key=lambda one: (len(one), one)), tail)
                part, tail = part + tail[0], tail[1:]
                self.assertEqual(tail_of_bookings_text(part), tail)


class Timetables(Case):
    def test_there_and_back(self):
        lots = Lots(415)
        for _ in range(100):
            table = some_table(lots, 9, 2000)
            text = timetable_text(table)
            self.assertEqual(text, "timetable " + " ".join(str(one) for one in table))
            told = timetable_of_text(text)
            self.assertEqual(told, table)
            self.assertIs(type(told), tuple)
            self.assertEqual(tail_of_timetable_text(text), "")

    def test_by_hand(self):
        for text, at, tail in (("", 0, "timetable0"), ("t", 1, "imetable0"), ("timetable", 9, "0"), ("timetable0", None, ""),
                               ("timetable 0", None, ""), (" timetable 7  0 ", None, ""), ("timetable 00", 11, None),
                               ("timetable 1000000001", 19, None), ("timetable 1000000000", None, ""),
                               ("timetables", 9, None), ("timetable 1 -1", 12, None), ("timetable 1\n", 11, None),
                               ("timetable none", 10, None), ("timetable 1,2", 11, None), ("timetable1 2", None, "")):
            self.assertEqual(tail_of_timetable_text(text), tail, text)
            if at is None:
                timetable_of_text(text)
            else:
                self.refuses(BadText, timetable_of_text, text, at=at)

    def test_60_and_61_numbers(self):
        text = timetable_text((7,) * 60)
        self.assertEqual(timetable_of_text(text), (7,) * 60)
        self.assertEqual(tail_of_timetable_text(text), "")
        self.refuses(BadText, timetable_of_text, text + " 7", at=len(text) + 1)
        self.assertEqual(tail_of_timetable_text(text + " "), "")

    def test_places(self):
        lots = Lots(416)
        for _ in range(200):
            text = some_timetable_text(lots)
            place = lots.below(len(text) + 1)
            text = lots.of([text, text[:place], text[:place] + lots.of(SIGNS) + text[place:], text[:place] + text[place + 1:]])
            at = place_of_wrong(text, "timetable")
            tail = tail_of_timetable_text(text)
            self.assertEqual(tail, plain_tail(text, "timetable", 1) if at != len(text) or len(tail) < 2 else tail)
            if at is None:
                self.assertEqual(timetable_of_text(text), tuple(int(one) for one in text.replace("timetable", " ").split()))
            else:
                self.refuses(BadText, timetable_of_text, text, at=at)


class Wrong(Case):
    def test_refuses(self):
        for thing in (None, 0, b"bookings", ["bookings"], (), True):
            for call in (bookings_of_text, tail_of_bookings_text, timetable_of_text, tail_of_timetable_text):
                self.refuses(BadText, call, thing, at=None)
        for thing in NO_BOOKINGS:
            self.refuses(BadBookings, bookings_text, thing)
        for thing in NO_TABLES:
            self.refuses(BadTimetable, timetable_text, thing)


if __name__ == "__main__":
    unittest.main()
