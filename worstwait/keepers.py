"""Keepers of bookings, with two pages that are written by turns."""

from worstwait.bookings import MOST_BOOKINGS, all_kept, by_names, is_booking
from worstwait.errors import BadBooking, BadKeeper, BadPages, NotNow, TooMany
from worstwait.gates import need_timetable
from worstwait.kinds import is_list, need_number
from worstwait.pages import LEAST_ROOM, MOST_NUMBER, MOST_ROOM, is_bytes, page_bytes, page_read


class Keeper:
    """Keeps bookings that are all kept at a timetable, on a disk with two pages."""

    def __init__(self, table, room, pages):
        need_timetable(table)
        need_number(room, LEAST_ROOM, MOST_ROOM, "room")
        found = latest_page(room, pages)
        if found is None or not all_kept(table, found[1]):
            raise BadPages("two lists of bytes are wanted, one at least a page of kept bookings")
        self.table = table
        self.room = room
        self.number, self.bookings = found
        self.pages = tuple(pages[0]), tuple(pages[1])
        # The page that was written over last, for what is found behind a fall.
        self._covered = None

    def ask(self, name, promise, deadline):
        """Whether the booking is taken: it is, if all are kept with it."""
        booking = name, promise, deadline
        if not is_booking(booking):
            raise BadBooking("a word, a promise and a deadline are wanted")
        if self._has(name) or len(self.bookings) == MOST_BOOKINGS:
            raise NotNow("there is one of this name, or there are 12")
        bookings = by_names(self.bookings + [booking])
        if not all_kept(self.table, bookings):
            return False
        self._write(bookings)
        return True

    def drop(self, name):
        """The booking of this name is there no longer."""
        if not self._has(name):
            raise NotNow("there is none of this name")
        self._write([booking for booking in self.bookings if booking[0] != name])

    def _has(self, name):
        """Whether there is a booking of this name."""
        return isinstance(name, str) and name in [booking[0] for booking in self.bookings]

    def _write(self, bookings):
        """Write the next page, and keep these bookings from now on."""
        if self.number == MOST_NUMBER:
            raise TooMany(MOST_NUMBER)
        number = self.number + 1
        page = page_bytes(self.room, number, bookings)
        place = number % 2
        self._covered = self.pages[place]
        self.pages = (page, self.pages[1]) if place == 0 else (self.pages[0], page)
        self.number = number
        self.bookings = bookings


def latest_page(room, pages):
    """The number and the bookings of the page that was written last; None without one.

    A page counts at the place at which it is written alone.
    """
    if not is_list(pages) or len(pages) != 2:
        return None
    if not all([is_bytes(page) and len(page) == room for page in pages]):
        return None
    told = [page_read(page) for page in pages]
    counting = [found for place, found in enumerate(told) if found is not None and found[0] % 2 == place]
    if not counting:
        return None
    return max(counting, key=lambda found: found[0])


def fallen_pages(keeper, cut):
    """The pages found if the keeper fell when this much of its last page was written."""
    if not isinstance(keeper, Keeper):
        raise BadKeeper("a keeper is wanted")
    if keeper._covered is None:
        raise NotNow("the keeper wrote nothing yet")
    need_number(cut, 0, keeper.room, "cut")
    place = keeper.number % 2
    page = keeper.pages[place][:cut] + keeper._covered[cut:]
    return (page, keeper.pages[1]) if place == 0 else (keeper.pages[0], page)
