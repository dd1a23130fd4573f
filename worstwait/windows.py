"""Windows of feedback: never more is let in than so many letters above what was given out."""

from worstwait.closures import closure
from worstwait.curves import MOST, first_values, has_none, need_curve, rate
from worstwait.errors import BadRow
from worstwait.foldings import folding
from worstwait.gaps import greatest_gap
from worstwait.joined import raised
from worstwait.kinds import is_from, is_list, need_number

MOST_ROW = 400


def need_window(server, window):
    """Raise the errors of what is no server and of what is no window."""
    need_curve(server)
    need_number(window, 0, MOST, "window")


def is_row_of_window(thing):
    """Whether it is a list of 1 to 400 numbers up to 10 ** 9 that never fall."""
    if not is_list(thing) or not 1 <= len(thing) <= MOST_ROW:
        return False
    if not all([is_from(one, 0, MOST) for one in thing]):
        return False
    return all([one <= two for one, two in zip(thing, thing[1:])])


def window_run(server, window, row):
    """What is let in, and what is given out, up to each beat."""
    need_window(server, window)
    if not is_row_of_window(row):
        raise BadRow("a list of 1 to 400 numbers that never fall is wanted")
    gives = first_values(server, len(row))
    let_in = []
    given_out = []
    for beat, came in enumerate(row):
        ahead = least_sum(let_in, gives[1:beat + 1])
        let_in.append(came if ahead is None else min(came, ahead + window))
        given_out.append(least_sum(let_in, gives[:beat + 1]))
    return let_in, given_out


def least_sum(row, gives):
    """The least sum of a number of a row and of a value, the last one with the first one and so on; None for none."""
    sums = [one + two for one, two in zip(row, gives[::-1]) if two is not None]
    return min(sums) if sums else None


def windowed(server, window):
    """The server with a window as one server."""
    need_window(server, window)
    return folding(closure(raised(server, window)), server)


def least_window(server):
    """The least window that costs nothing; None if there is none."""
    need_curve(server)
    return greatest_gap(server, folding(server, server))[0]


def throughput(server, window):
    """At which rate a server with a window gives out in the end; None without end."""
    need_window(server, window)
    return rate(windowed(server, window))


def window_for(server, steps, beats):
    """The least window with at least this throughput; None if there is none."""
    need_curve(server)
    need_number(steps, 0, MOST, "steps")
    need_number(beats, 1, 60, "beats")
    if not has_none(server) and server.growth * beats < steps * server.period:
        return None
    row = first_values(server, len(server.start) + 1)
    lacks = [-((one * beats - steps * beat) // beats) for beat, one in enumerate(row) if one is not None]
    return max([0] + lacks[1:])
