"""Bookings at a gate by rank: what goes out, whether all deadlines are kept, and in which sequence."""

from worstwait.bookings import MOST_ROW, need_bookings
from worstwait.closures import closure
from worstwait.curves import first_values
from worstwait.earliest import need_coming
from worstwait.errors import TooMany
from worstwait.gates import need_timetable


def ranks_run(table, phase, rows):
    """The ways out with which letters of the first rows go first."""
    need_coming(table, phase, rows)
    told = [[0] for _ in rows]
    for beat in range(len(rows[0]) - 1):
        spare = table[(phase + beat) % len(table)]
        for row, way in zip(rows, told):
            letters = min(spare, row[beat + 1] - way[beat])
            way.append(way[beat] + letters)
            spare -= letters
    return [tuple(way) for way in told]


def most_sent(booking):
    """How many letters of a booking come below each beat if it sends as much as it can."""
    return first_values(closure(booking[1]), MOST_ROW + 1)


def missed_at(table, phase, ahead, row, deadline):
    """The beat at which a deadline is missed behind what comes ahead; None if none is.

    Once none is left of all that came, it goes on no worse than from beat 0
    at another phase.
    """
    gone_ahead = 0
    gone = 0
    for beat in range(MOST_ROW):
        spare = table[(phase + beat) % len(table)]
        letters = min(spare, ahead[beat + 1] - gone_ahead)
        gone_ahead += letters
        gone = min(row[beat + 1], gone + spare - letters)
        if beat + 1 >= deadline and gone < row[beat + 1 - deadline]:
            return beat + 1
        if gone == row[beat + 1] and gone_ahead == ahead[beat + 1]:
            return None
    raise TooMany(MOST_ROW)


def miss_behind(table, ahead, row, deadline):
    """The first phase at which a deadline is missed, and the beat; None without one."""
    for phase in range(len(table)):
        beat = missed_at(table, phase, ahead, row, deadline)
        if beat is not None:
            return phase, beat
    return None


def added_rows(one, two):
    """The sum of two rows, beat by beat."""
    return [mine + its for mine, its in zip(one, two)]


def ranks_kept(table, bookings):
    """Whether all deadlines are kept by rank in this sequence, whatever the bookings send."""
    return ranks_breaking(table, bookings) is None


def ranks_breaking(table, bookings):
    """A place, a phase and rows with which a deadline is missed; None if all are kept."""
    need_timetable(table)
    need_bookings(bookings)
    ahead = [0] * (MOST_ROW + 1)
    rows = []
    for place, booking in enumerate(bookings):
        row = most_sent(booking)
        rows.append(row)
        found = miss_behind(table, ahead, row, booking[2])
        if found is not None:
            phase, beat = found
            # What is ranked behind may as well send nothing.
            rows = rows + [[0] * len(row)] * (len(bookings) - len(rows))
            return place, phase, tuple([tuple(one[:beat + 1]) for one in rows])
        ahead = added_rows(ahead, row)
    return None


def ranks_order(table, bookings):
    """The names in a sequence in which all are kept by rank; None if there is none."""
    need_timetable(table)
    need_bookings(bookings)
    deadlines = {name: deadline for name, promise, deadline in bookings}
    rows = {booking[0]: most_sent(booking) for booking in bookings}
    left = sorted([booking[0] for booking in bookings])
    told = []
    while left:
        name = kept_last(table, left, rows, deadlines)
        if name is None:
            return None
        told.append(name)
        left.remove(name)
    return tuple(told[::-1])


def kept_last(table, names, rows, deadlines):
    """The least of the names that is kept with all others ahead; None without one."""
    for name in names:
        ahead = [0] * (MOST_ROW + 1)
        for other in names:
            if other != name:
                ahead = added_rows(ahead, rows[other])
        if miss_behind(table, ahead, rows[name], deadlines[name]) is None:
            return name
    return None
