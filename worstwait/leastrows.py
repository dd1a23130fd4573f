"""Least rows with which a letter waits at least so long."""

from worstwait.kinds import need_number
from worstwait.plays import MOST_BEATS, leavings
from worstwait.searches import MOST_LONG, coming_rows, longest_in
from worstwait.toldbounds import need_promises_of


def least_rows(station, promises, flow, wait, beats):
    """The rows of the fewest beats, and of these of the fewest letters, with such a wait; None without any."""
    need_promises_of(station, promises, flow)
    need_number(wait, 0, MOST_BEATS, "wait")
    need_number(beats, 1, MOST_LONG, "beats")
    for many in range(1, beats + 1):
        best = None
        for rows in coming_rows(promises, many):
            found = longest_in(rows[flow], leavings(station, rows), flow)
            if found is not None and found >= wait:
                letters = sum([sum(row) for row in rows])
                if best is None or letters < best[0]:
                    best = letters, rows
        if best is not None:
            return best[1]
    return None
