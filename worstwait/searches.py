"""Searches: the worst that all rows of few beats come to, and phases at which a told wait is come to."""

from worstwait.bounds import wait_of
from worstwait.closures import closure
from worstwait.curves import at, first_values, has_none, need_curve
from worstwait.errors import BadStation, NoEnd, TooMany
from worstwait.gates import all_let_out, gate_curve
from worstwait.kinds import need_number
from worstwait.plays import leavings
from worstwait.stations import is_speeds, need_station
from worstwait.toldbounds import need_promises_of
from worstwait.traffics import steps_of

MOST_LONG = 8
MOST_ROWS = 3000
MOST_TRAFFIC = 1000
MOST_BEATS = 4
MOST_COMPARED = 6561
# So many numbers of 0 to 2 make just as many rows.
MOST_CELLS = 8


def all_traffics(promise, beats):
    """All tuples of so many numbers that keep a promise as traffics, ascending."""
    need_curve(promise)
    need_number(beats, 1, MOST_LONG, "beats")
    return kept_rows(promise, beats)


def kept_rows(promise, beats):
    """What all_traffics tells, of what is known to be right."""
    if at(promise, 1) is None:
        raise TooMany(MOST_ROWS)
    told = [()]
    for many in range(beats):
        lets = [one for one in first_values(promise, many + 2)[1:] if one is not None]
        rooms = [room_behind(traffic, lets) for traffic in told]
        if sum(rooms) + len(rooms) > MOST_ROWS:
            raise TooMany(MOST_ROWS)
        told = [traffic + (letters,) for traffic, room in zip(told, rooms) for letters in range(room + 1)]
    return told


def room_behind(traffic, lets):
    """How many letters may come in the beat behind a traffic, lets telling how many in 1, 2 .. beats."""
    came = 0
    room = lets[0]
    for letters, most in zip(traffic[::-1], lets[1:]):
        came += letters
        room = min(room, most - came)
    return room


def coming_rows(promises, beats):
    """All rows of so many beats of which each keeps its promise, ascending."""
    every = [kept_rows(promise, beats) for promise in promises]
    told = [()]
    for kept in every:
        if len(told) * len(kept) > MOST_ROWS:
            raise TooMany(MOST_ROWS)
        told = [rows + (traffic,) for rows in told for traffic in kept]
    return told


def longest_in(row, run, flow):
    """The longest wait of a flow's letters in a run, that came as a row tells; None without letters."""
    longest = None
    came = 0
    gone = 0
    end = -1
    for beat, letters in enumerate(row):
        if letters > 0:
            came += letters
            while gone < came:
                end += 1
                gone += run[end][flow]
            longest = end - beat if longest is None else max(longest, end - beat)
    return longest


def greatest_in(row, run, flow):
    """The most letters of a flow that are left behind a beat of a run."""
    heap = 0
    most = 0
    for letters, gone in zip(row, run):
        heap += letters - gone[flow]
        most = max(most, heap)
    return most


def worst(station, promises, flow, beats):
    """The longest wait of a letter of a flow in all rows, and the least rows with it; None without letters."""
    need_promises_of(station, promises, flow)
    need_number(beats, 1, MOST_LONG, "beats")
    best = None
    for rows in coming_rows(promises, beats):
        wait = longest_in(rows[flow], leavings(station, rows), flow)
        if wait is not None and (best is None or wait > best[0]):
            best = wait, rows
    return best


def worst_heap(station, promises, flow, beats):
    """The most letters of a flow that are left in all rows, and the least rows with them."""
    need_promises_of(station, promises, flow)
    need_number(beats, 1, MOST_LONG, "beats")
    best = None
    for rows in coming_rows(promises, beats):
        heap = greatest_in(rows[flow], leavings(station, rows), flow)
        if best is None or heap > best[0]:
            best = heap, rows
    return best


def worst_phase(speeds, promise):
    """A phase and a traffic with which a letter waits just as long as is told."""
    if not is_speeds(speeds):
        raise BadStation("speeds")
    need_curve(promise)
    closed = closure(promise)
    found = None if has_none(closed) else wait_of(closed, gate_curve(tuple(speeds)))
    if found is None:
        raise NoEnd("a letter can wait without end")
    wait, beat = found
    if beat > MOST_TRAFFIC:
        raise TooMany(MOST_TRAFFIC)
    if wait == 0:
        # Any letter waits just as long, if some letter comes.
        return 0, (at(closed, 1),)
    # One beat sooner the last letters that came are not yet gone.
    told = all_let_out(tuple(speeds), beat + wait - 1)
    return told.index(min(told)), steps_of(first_values(closed, beat + 1))


def never_worse(station, other, beats):
    """The least rows at which the longest wait of all letters is greater at station; None if it never is."""
    need_station(station)
    need_station(other)
    if station.flows != other.flows:
        raise BadStation("flows")
    need_number(beats, 1, MOST_BEATS, "beats")
    if station.flows * beats > MOST_CELLS:
        raise TooMany(MOST_COMPARED)
    for rows in small_rows(station.flows, beats):
        if longest_of_all(station, rows) > longest_of_all(other, rows):
            return rows
    return None


def small_rows(flows, beats):
    """All rows of so many flows and beats with numbers of 0 to 2, ascending."""
    traffics = [()]
    for _ in range(beats):
        traffics = [one + (letters,) for one in traffics for letters in range(3)]
    told = [()]
    for _ in range(flows):
        told = [rows + (one,) for rows in told for one in traffics]
    return told


def longest_of_all(station, rows):
    """The longest wait of all letters of rows at a station, 0 without letters."""
    run = leavings(station, rows)
    waits = [longest_in(row, run, flow) for flow, row in enumerate(rows)]
    return max([0] + [wait for wait in waits if wait is not None])
