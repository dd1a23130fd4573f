"""Lines of gates with one clock: what goes out of them, gate by gate, and what they give at least."""

from math import lcm

from worstwait.curves import made
from worstwait.errors import BadGates, TooMany
from worstwait.gates import is_timetable
from worstwait.kinds import is_list, need_number
from worstwait.traffics import need_row

MOST_GATES = 6
MOST_ROUND = 400
MOST_BEATS = 4000


def need_gates(thing):
    """Raise the error of what are no gates unless they are."""
    if not is_list(thing) or not 1 <= len(thing) <= MOST_GATES:
        raise BadGates("a list of 1 to 6 timetables is wanted")
    if not all([is_timetable(table) for table in thing]):
        raise BadGates("a list of 1 to 6 timetables is wanted")


def common_round(gates):
    """The least number that all lengths divide, however great."""
    beats = 1
    for table in gates:
        beats = lcm(beats, len(table))
    return beats


def short_round(gates):
    """The round of gates, unless it is too long."""
    beats = common_round(gates)
    if beats > MOST_ROUND:
        raise TooMany(MOST_ROUND)
    return beats


def round_of(gates):
    """The least number that all lengths of the gates' timetables divide."""
    need_gates(gates)
    return short_round(gates)


def out_of(table, phase, row):
    """How many letters went out of a gate below each beat, if this row came to it."""
    told = [0]
    out = 0
    for beat, came in enumerate(row[1:]):
        out += table[(phase + beat) % len(table)]
        if out > came:
            out = came
        told.append(out)
    return told


def gates_run(gates, phase, row):
    """For each gate how many letters went out of it below each beat."""
    need_gates(gates)
    need_number(phase, 0, common_round(gates) - 1, "phase")
    need_row(row)
    short_round(gates)
    told = []
    for table in gates:
        row = out_of(table, phase, row)
        told.append(tuple(row))
    return told


def out_of_full(gates, phase, beats):
    """How many letters went out of the last gate below 0, 1 .. beats, if there are always enough."""
    first = gates[0]
    row = [0]
    for beat in range(beats):
        row.append(row[-1] + first[(phase + beat) % len(first)])
    for table in gates[1:]:
        row = out_of(table, phase, row)
    return row


def settled_from(gates, beats):
    """From which beat on it goes on by rounds what goes out of a line whose round has so many beats.

    A gate of which less goes out in a round than comes falls behind within
    its first round; otherwise it does in each round what it did in the one
    ahead. So each gate but the first one takes one round at most.
    """
    return (len(gates) - 1) * beats


def line_curve(gates):
    """The curve of the fewest letters that go out of the last gate, over all phases."""
    need_gates(gates)
    beats = short_round(gates)
    many = settled_from(gates, beats) + beats
    least = out_of_full(gates, 0, many - 1)
    for phase in range(1, beats):
        row = out_of_full(gates, phase, many - 1)
        least = [min(one, two) for one, two in zip(least, row)]
    growth = min([beats // len(table) * sum(table) for table in gates])
    return made(least, beats, growth)


def slow_phase(gates, beats):
    """The least phase at which the fewest letters go out in so many beats."""
    need_gates(gates)
    need_number(beats, 0, MOST_BEATS, "beats")
    return slowest_phase(gates, beats, short_round(gates))


def slowest_phase(gates, beats, step):
    """What slow_phase tells, of any number of beats; step is the gates' round."""
    # Whole rounds behind the beat from which on all goes on by rounds tell nothing.
    settled = settled_from(gates, step)
    if beats > settled:
        beats = settled + (beats - settled) % step
    told = [out_of_full(gates, phase, beats)[beats] for phase in range(step)]
    return told.index(min(told))
