"""Bookings: promises with deadlines, and whether a gate keeps them whatever comes."""

from worstwait.closures import closure
from worstwait.curves import MOST, MOST_GIVEN, Curve, at, first_values, flat
from worstwait.errors import BadBookings, TooMany
from worstwait.gates import gate_curve, least_phase, need_timetable
from worstwait.joined import first_above, later, sum_of
from worstwait.kinds import is_from, is_list, is_word

MOST_BOOKINGS = 12
MOST_DEADLINE = 300
MOST_ROW = 1000


def is_given(thing):
    """Whether it is a curve in the bounds of those that are handed in."""
    if not isinstance(thing, Curve) or len(thing.start) > MOST_GIVEN:
        return False
    if thing.period > 60 or thing.growth > MOST:
        return False
    return all([one is None or one <= MOST for one in thing.start])


def is_booking(thing):
    """Whether it is a triple of a word, a promise and a deadline."""
    if not isinstance(thing, tuple) or len(thing) != 3:
        return False
    name, promise, deadline = thing
    if not is_word(name) or not is_given(promise):
        return False
    return at(promise, 1) is not None and is_from(deadline, 0, MOST_DEADLINE)


def is_bookings(thing):
    """Whether it is a list of at most 12 bookings, no two names alike."""
    if not is_list(thing) or len(thing) > MOST_BOOKINGS:
        return False
    if not all([is_booking(one) for one in thing]):
        return False
    return len({booking[0] for booking in thing}) == len(thing)


def need_bookings(thing):
    """Raise the error of what are no bookings unless they are."""
    if not is_bookings(thing):
        raise BadBookings("a list of at most 12 bookings of unlike names is wanted")


def by_names(bookings):
    """The bookings by ascending names."""
    return sorted(bookings, key=lambda booking: booking[0])


def due_curve(bookings):
    """The sum of the closures of all promises, each its deadline later."""
    need_bookings(bookings)
    due = flat(0)
    # By names, so that what has too many values does not hang on the sequence.
    for _, promise, deadline in by_names(bookings):
        due = sum_of(due, later(closure(promise), deadline))
    return due


def first_miss(table, bookings):
    """The least beat at which more is due than the gate lets out; None without one."""
    need_timetable(table)
    need_bookings(bookings)
    return first_above(due_curve(bookings), gate_curve(table))


def all_kept(table, bookings):
    """Whether all deadlines can be kept, whatever the bookings send."""
    return first_miss(table, bookings) is None


def breaking(table, bookings):
    """The beat, the phase and the rows with which a deadline is missed; None if none is."""
    beat = first_miss(table, bookings)
    if beat is None:
        return None
    if beat > MOST_ROW:
        raise TooMany(MOST_ROW)
    most = at(gate_curve(table), beat) + 1
    rows = [first_values(closure(booking[1]), beat + 1) for booking in bookings]
    told = tuple([tuple([min(one, most) for one in row]) for row in rows])
    return beat, least_phase(table, beat), told
