"""Waits and heaps at lines of gates, whatever comes that keeps a promise, and rows that come to them."""

from worstwait.bounds import heap_of, wait_of
from worstwait.closures import closure
from worstwait.curves import first_values, need_curve
from worstwait.errors import TooMany
from worstwait.gatelines import line_curve, need_gates, short_round, slowest_phase

MOST_BEAT = 1000


def need_gates_and_promise(gates, promise):
    """Raise the errors of what is no promise, and of what are no gates."""
    need_curve(promise)
    need_gates(gates)
    short_round(gates)


def shown(gates, closed, number, beat, slow):
    """The number, the phase at which the fewest letters go out in slow beats, and the row up to a beat."""
    if beat > MOST_BEAT:
        raise TooMany(MOST_BEAT)
    return number, slowest_phase(gates, slow, short_round(gates)), tuple(first_values(closed, beat + 1))


def gates_wait(gates, promise):
    """The longest wait of a letter in the line, and a phase and a row with it; None without end."""
    need_gates_and_promise(gates, promise)
    closed = closure(promise)
    found = wait_of(closed, line_curve(gates))
    if found is None:
        return None
    wait, beat = found
    # The letters that came below the beat are not yet through one beat sooner.
    return shown(gates, closed, wait, beat, max(0, beat + wait - 1))


def gates_heap(gates, promise):
    """The most letters that are in the line, and a phase and a row with them; None without end."""
    need_gates_and_promise(gates, promise)
    closed = closure(promise)
    found = heap_of(closed, line_curve(gates))
    if found is None:
        return None
    heap, beat = found
    return shown(gates, closed, heap, beat, beat)
