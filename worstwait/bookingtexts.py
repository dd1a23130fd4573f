"""Texts of bookings and of timetables."""

from worstwait.bookings import is_bookings, need_bookings
from worstwait.curvetexts import curve_text
from worstwait.errors import BadBookings
from worstwait.expressions import Expressions
from worstwait.gates import need_timetable
from worstwait.syntax import Syntax
from worstwait.tokens import need_text, tail_of

BOOKINGS = ("lines",), ("word", "bookings")
TIMETABLE = ("table",), ("word", "timetable")


def bookings_text(bookings):
    """The text of bookings, in their sequence."""
    need_bookings(bookings)
    lines = ["bookings"]
    for name, promise, deadline in bookings:
        lines.append(" ".join(["book", name, "keeps", curve_text(promise), "within", str(deadline)]))
    return "\n".join(lines)


def tail_of_bookings_text(text):
    """The shortest string that makes it a text of bookings; None if none does."""
    return tail_of(Syntax(BOOKINGS), text)


def bookings_of_text(text):
    """The bookings that a text tells."""
    reader = Expressions(need_text(Syntax(BOOKINGS), text))
    reader.pull()
    told = []
    while reader.next_is("\n"):
        reader.pull()
        reader.pull()
        name = reader.pull()
        reader.pull()
        promise = reader.read_curve()
        reader.pull()
        told.append((name, promise, reader.read_number()))
    if not is_bookings(told):
        raise BadBookings("a promise is out of the bounds of bookings")
    return tuple(told)


def timetable_text(timetable):
    """The text of a timetable."""
    need_timetable(timetable)
    return "timetable " + " ".join([str(one) for one in timetable])


def tail_of_timetable_text(text):
    """The shortest string that makes it a text of a timetable; None if none does."""
    return tail_of(Syntax(TIMETABLE), text)


def timetable_of_text(text):
    """The timetable that a text tells."""
    return tuple([int(token) for token in need_text(Syntax(TIMETABLE), text)[1:]])
