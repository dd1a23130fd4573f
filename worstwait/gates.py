"""Gates: what a timetable lets out, round and round, wherever its round begins."""

from worstwait.curves import MOST, made
from worstwait.errors import BadTimetable
from worstwait.kinds import is_from, need_number


def is_timetable(thing):
    """Whether it is a tuple of 1 to 60 numbers from 0 to 10 ** 9."""
    if not isinstance(thing, tuple) or not 1 <= len(thing) <= 60:
        return False
    return all([is_from(one, 0, MOST) for one in thing])


def need_timetable(thing):
    """Raise the error of what is no timetable unless it is one."""
    if not is_timetable(thing):
        raise BadTimetable("a tuple of 1 to 60 numbers is wanted")


def let_through(table, phase, beats):
    """How many letters the gate lets out at most in the first so many beats."""
    need_timetable(table)
    need_number(phase, 0, len(table) - 1, "phase")
    need_number(beats, 0, MOST, "beats")
    return let_out(table, phase, beats)


def let_out(table, phase, beats):
    """What let_through tells, of what is known to be right."""
    rounds = beats // len(table)
    behind = (table + table)[phase:phase + beats - rounds * len(table)]
    return rounds * sum(table) + sum(behind)


def all_let_out(table, beats):
    """How many letters the gate lets out in so many beats, for each phase."""
    return [let_out(table, phase, beats) for phase in range(len(table))]


def least_phase(table, beats):
    """The least phase of those with which the fewest letters are let out."""
    need_timetable(table)
    need_number(beats, 0, MOST, "beats")
    told = all_let_out(table, beats)
    return told.index(min(told))


def gate_curve(table):
    """The curve of the fewest letters over all phases."""
    need_timetable(table)
    row = [min(all_let_out(table, beats)) for beats in range(len(table))]
    return made(row, len(table), sum(table))


def gate_most(table):
    """The curve of the most letters over all phases."""
    need_timetable(table)
    row = [max(all_let_out(table, beats)) for beats in range(len(table))]
    return made(row, len(table), sum(table))
