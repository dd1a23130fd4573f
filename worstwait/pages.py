"""Pages: bookings written as bytes, with a number at both ends."""

from worstwait.bookings import MOST_BOOKINGS, by_names, is_bookings, need_bookings
from worstwait.curves import MOST_GIVEN, Curve
from worstwait.errors import BadCurve, TooMany
from worstwait.kinds import is_from, is_list, need_number

LEAST_ROOM = 16
MOST_ROOM = 65536
MOST_NUMBER = 2 ** 32 - 1


def page_bytes(room, number, bookings):
    """The page of so many bytes that tells this number and these bookings."""
    need_number(room, LEAST_ROOM, MOST_ROOM, "room")
    need_number(number, 0, MOST_NUMBER, "number")
    need_bookings(bookings)
    told = written(room, number, bookings)
    if told is None:
        raise TooMany(room)
    return told


def written(room, number, bookings):
    """The page as a tuple of bytes; None if the room is too small."""
    told = low_first(number, 4) + [len(bookings)]
    for booking in by_names(bookings):
        told = told + booking_bytes(booking)
    spare = room - len(told) - 4
    if spare < 0:
        return None
    return tuple(told + [0] * spare + low_first(number, 4)[::-1])


def low_first(number, many):
    """A number as so many bytes, the lowest one first."""
    told = []
    for _ in range(many):
        told.append(number & 255)
        number = number >> 8
    return told


def booking_bytes(booking):
    """The bytes of one booking."""
    name, promise, deadline = booking
    told = [len(name)] + [ord(sign) for sign in name]
    told = told + low_first(deadline, 2) + low_first(len(promise.start), 2)
    told = told + [promise.period] + low_first(promise.growth, 4)
    for one in promise.start:
        told.extend(low_first(MOST_NUMBER if one is None else one, 4))
    return told


class Reader:
    """Reads a page byte by byte; short is set once it ends too soon."""

    def __init__(self, page):
        self.page = page
        self.place = 0
        self.short = False

    def take(self, many):
        """The number in the next so many bytes, the lowest one first."""
        told = self.page[self.place:self.place + many]
        if len(told) < many:
            self.short = True
        self.place += many
        number = 0
        for one in told[::-1]:
            number = number * 256 + one
        return number


def is_bytes(thing):
    """Whether it is a list of bytes, numbers from 0 to 255."""
    return is_list(thing) and all([is_from(one, 0, 255) for one in thing])


def page_read(thing):
    """The pair of the number and the bookings of a page; None if it is none."""
    if not is_bytes(thing) or not LEAST_ROOM <= len(thing) <= MOST_ROOM:
        return None
    reader = Reader(list(thing))
    number = reader.take(4)
    many = reader.take(1)
    if many > MOST_BOOKINGS:
        return None
    bookings = []
    for _ in range(many):
        booking = booking_read(reader)
        if booking is None:
            return None
        bookings.append(booking)
    # What is read loosely here is a page only if it is written just so.
    if not is_bookings(bookings) or written(len(thing), number, bookings) != tuple(thing):
        return None
    return number, bookings


def booking_read(reader):
    """The booking that comes next; None if none can be read."""
    name = word_read([reader.take(1) for _ in range(reader.take(1))])
    deadline = reader.take(2)
    many = reader.take(2)
    period = reader.take(1)
    growth = reader.take(4)
    if reader.short or many > MOST_GIVEN:
        return None
    start = [reader.take(4) for _ in range(many)]
    if reader.short:
        return None
    try:
        promise = Curve([None if one == MOST_NUMBER else one for one in start], period, growth)
    except BadCurve:
        return None
    return name, promise, deadline


def word_read(told):
    """The word whose letters have these numbers; "" if one of them is no letter."""
    letters = "abcdefghijklmnopqrstuvwxyz"
    if not all([97 <= one <= 122 for one in told]):
        return ""
    return "".join([letters[one - 97] for one in told])
