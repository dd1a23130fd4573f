"""Traffics: how many letters come at each beat, and rows: how many came below each beat."""

from worstwait.curves import Curve, at, first_values, has_none, made
from worstwait.errors import BadRow, BadTraffic
from worstwait.kinds import is_list, is_number, need_number

MOST_BEATS = 1000


def is_traffic(thing):
    """Whether it is a list of at most 1000 numbers from 0 on."""
    if not is_list(thing) or len(thing) > MOST_BEATS:
        return False
    return all([is_number(one) and one >= 0 for one in thing])


def is_row(thing):
    """Whether it is a list of 1 to 1001 numbers, the first one 0, never falling."""
    if not is_list(thing) or not 1 <= len(thing) <= MOST_BEATS + 1:
        return False
    if not all([is_number(one) for one in thing]) or thing[0] != 0:
        return False
    return all([one <= two for one, two in zip(thing, thing[1:])])


def is_endless(thing):
    """Whether it is a curve with the value 0 at beat 0 and without a None."""
    return isinstance(thing, Curve) and at(thing, 0) == 0 and not has_none(thing)


def need_traffic(thing):
    """Raise the error of what is no traffic unless it is one."""
    if not is_traffic(thing):
        raise BadTraffic("traffic")


def need_row(thing):
    """Raise the error of what is no row unless it is one."""
    if not is_row(thing):
        raise BadRow("a list of 1 to 1001 numbers that never fall is wanted, the first one 0")


def running(traffic):
    """The list of how many letters came below each beat."""
    row = [0]
    for letters in traffic:
        row.append(row[-1] + letters)
    return row


def steps_of(row):
    """The tuple of how much a row grows from each beat to the next one."""
    return tuple([two - one for one, two in zip(row, row[1:])])


def row_of(traffic):
    """The row of a traffic."""
    need_traffic(traffic)
    return tuple(running(traffic))


def traffic_of(row):
    """The traffic that has this row."""
    if not is_row(row):
        raise BadTraffic("row")
    return steps_of(row)


def curve_of(traffic):
    """The endless traffic in which the same letters come."""
    if is_endless(traffic):
        return traffic
    need_traffic(traffic)
    return made(running(traffic), 1, 0)


def first_beats(endless, beats):
    """How many letters of an endless traffic come at each of the first so many beats."""
    if not is_endless(endless):
        raise BadTraffic("endless")
    need_number(beats, 0, MOST_BEATS, "beats")
    return steps_of(first_values(endless, beats + 1))
