"""Further bookings beside those of a gate, and timetables added up."""

from math import lcm

from worstwait.bookings import MOST_DEADLINE, due_curve, is_booking, need_bookings
from worstwait.closures import closure
from worstwait.curves import MOST
from worstwait.errors import BadPromise, TooMany
from worstwait.gates import gate_curve, need_timetable
from worstwait.joined import is_below, later, sum_of, times
from worstwait.kinds import need_number

MOST_TIMES = 10 ** 6


def need_promise(thing):
    """Raise the error of what can be promised by no booking unless it can be."""
    if not is_booking(("a", thing, 0)):
        raise BadPromise("a curve is wanted that a booking can promise")


def least_deadline(table, bookings, promise):
    """The least deadline with which a further booking leaves all kept; None without one."""
    need_timetable(table)
    need_bookings(bookings)
    need_promise(promise)
    gate = gate_curve(table)
    due = due_curve(bookings)
    further = closure(promise)
    for deadline in range(MOST_DEADLINE + 1):
        if is_below(sum_of(due, later(further, deadline)), gate):
            return deadline
    return None


def most_times(table, bookings, promise, deadline):
    """How many further bookings of this promise and deadline leave all kept.

    10 ** 6 if these and more do; None if all are not kept without one.
    """
    need_timetable(table)
    need_bookings(bookings)
    need_promise(promise)
    need_number(deadline, 0, MOST_DEADLINE, "deadline")
    gate = gate_curve(table)
    due = due_curve(bookings)
    if not is_below(due, gate):
        return None
    further = later(closure(promise), deadline)
    low, high = 0, MOST_TIMES
    while low < high:
        middle = (low + high + 1) // 2
        if is_below(sum_of(due, times(further, middle)), gate):
            low = middle
        else:
            high = middle - 1
    return low


def added(table, other):
    """The timetable that has at each beat the sum of the two."""
    need_timetable(table)
    need_timetable(other)
    many = lcm(len(table), len(other))
    if many > 60:
        raise TooMany(60)
    sums = [table[beat % len(table)] + other[beat % len(other)] for beat in range(many)]
    if max(sums) > MOST:
        raise TooMany(MOST)
    return tuple(sums)
