"""Pages: bookings written as bytes, with a number at both ends."""

from worstwait.bookings import MOST_BOOKINGS, by_names, is_booking, need_bookings
from worstwait.curves import MOST_GIVEN, Curve
from worstwait.errors import BadCurve, TooMany
from worstwait.kinds import are_numbers, is_list, need_number

LEAST_ROOM = 16
MOST_ROOM = 65536
MOST_NUMBER = 2 ** 32 - 1
# How many bytes the first number and bookings take at most.
MOST_USED = 5 + 12 * (22 + 4 * 400)


def page_bytes(room, number, bookings):
    """The page of so many bytes that tells this number and these bookings."""
    need_number(room, LEAST_ROOM, MOST_ROOM, "room")
    need_number(number, 0, MOST_NUMBER, "number")
    need_bookings(bookings)
    told = written(room, number, bookings)
    if told is None:
        raise TooMany(room)
    return told


def written(room, number, bookings):
    """The page as a tuple of bytes; None if the room is too small."""
    told = low_first(number, 4) + [len(bookings)]
    for booking in by_names(bookings):
        told = told + booking_bytes(booking)
    spare = room - len(told) - 4
    if spare < 0:
        return None
    return tuple(told + [0] * spare + low_first(number, 4)[::-1])


def low_first(number, many):
    """A number as so many bytes, the lowest one first."""
    told = []
    for _ in range(many):
        told.append(number & 255)
        number = number >> 8
    return told


def booking_bytes(booking):
    """The bytes of one booking."""
    name, promise, deadline = booking
    told = [len(name)] + [ord(sign) for sign in name]
    told = told + low_first(deadline, 2) + low_first(len(promise.start), 2)
    told = told + [promise.period] + low_first(promise.growth, 4)
    for one in promise.start:
        told.extend(low_first(MOST_NUMBER if one is None else one, 4))
    return told


class Reader:
    """Reads a page of bytes; short is set once it ends too soon."""

    def __init__(self, page):
        self.page = page
        self.place = 0
        self.short = False

    def cut(self, many):
        """The list of the next so many bytes."""
        told = self.page[self.place:self.place + many]
        if len(told) < many:
            self.short = True
        self.place += many
        return told

    def take(self, many):
        """The number in the next so many bytes, the lowest one first."""
        number = 0
        for one in self.cut(many)[::-1]:
            number = number * 256 + one
        return number

    def take_all(self, many):
        """So many numbers, each in the next four bytes, the lowest one first."""
        told = self.cut(4 * many)
        low = [one + 256 * two for one, two in zip(told[0::4], told[1::4])]
        high = [one + 256 * two for one, two in zip(told[2::4], told[3::4])]
        return [one + 65536 * two for one, two in zip(low, high)]


def are_low(row):
    """Whether no number of a list is below 0 or above 255."""
    return not row or (min(row) >= 0 and max(row) <= 255)


def is_bytes(thing):
    """Whether it is a list of bytes, numbers from 0 to 255."""
    return is_list(thing) and are_numbers(thing) and are_low(thing)


def page_read(thing):
    """The pair of the number and the bookings of a page; None if it is none."""
    if not is_list(thing) or not LEAST_ROOM <= len(thing) <= MOST_ROOM:
        return None
    page = list(thing)
    # Behind what bookings can take there are zeros and the number alone.
    if not are_numbers(page) or not are_low(page[:MOST_USED]):
        return None
    reader = Reader(page)
    number = reader.take(4)
    bookings = bookings_read(reader)
    if bookings is None or reader.place + 4 > len(page):
        return None
    if page[reader.place:-4] != [0] * (len(page) - reader.place - 4):
        return None
    if page[-4:] != low_first(number, 4)[::-1]:
        return None
    return number, bookings


def bookings_read(reader):
    """The bookings that come next, by ascending names; None if they can't be read."""
    many = reader.take(1)
    if many > MOST_BOOKINGS:
        return None
    told = []
    for _ in range(many):
        booking = booking_read(reader)
        if booking is None or (told and told[-1][0] >= booking[0]):
            return None
        told.append(booking)
    return told


def booking_read(reader):
    """The booking that comes next; None if none can be read that is written just so."""
    name = word_read(reader.cut(reader.take(1)))
    deadline = reader.take(2)
    many = reader.take(2)
    period = reader.take(1)
    growth = reader.take(4)
    if many > MOST_GIVEN:
        return None
    start = [None if one == MOST_NUMBER else one for one in reader.take_all(many)]
    if reader.short:
        return None
    try:
        promise = Curve(start, period, growth)
    except BadCurve:
        return None
    if (promise.start, promise.period, promise.growth) != (tuple(start), period, growth):
        # Pages tell curves in their least forms alone.
        return None
    booking = name, promise, deadline
    return booking if is_booking(booking) else None


def word_read(told):
    """The word whose letters have these numbers; "" if one of them is no letter."""
    letters = "abcdefghijklmnopqrstuvwxyz"
    if not all([97 <= one <= 122 for one in told]):
        return ""
    return "".join([letters[one - 97] for one in told])
