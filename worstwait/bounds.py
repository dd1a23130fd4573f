"""Bounds: the longest wait, the greatest heap, and what goes out of a server, for all that keeps its promises.

Behind the closure of a promise all works on closed curves: those with the
value 0 at beat 0 that either have no None or are None from beat 1 on.
"""

from math import gcd

from worstwait.closures import closure
from worstwait.curves import at, first_none, first_values, has_none, made, regular_from
from worstwait.errors import TooMany
from worstwait.foldings import unit
from worstwait.gaps import greatest_gap, has_greatest_gap, longest_lag
from worstwait.joined import need_two
from worstwait.kinds import need_number
from worstwait.services import least_left

MOST_LAST = 1000


def told_end(found):
    """What is told of a greatest number and its beat: None if there is no end."""
    return None if found[0] is None else found


def wait_of(closed, service):
    """The longest wait of what a closed curve lets come, and its beat; None without end."""
    return told_end(longest_lag(closed, service))


def heap_of(closed, service):
    """The greatest heap of what a closed curve lets come, and its beat; None without end."""
    return told_end(greatest_gap(closed, service))


def longest_wait(promise, service):
    """The longest wait, and the least beat with it; None if waits have no end."""
    need_two(promise, service)
    return wait_of(closure(promise), service)


def greatest_heap(promise, service):
    """The greatest heap, and the least beat with it; None if heaps have no end."""
    need_two(promise, service)
    return heap_of(closure(promise), service)


def most_coming(closed, service, many):
    """The first values of a row with which what is told is come to.

    It is the closed curve itself, if that is without end more than the
    service can serve.
    """
    if not has_none(closed):
        return first_values(closed, many)
    numbers = [one for one in service.start[1:] if one is not None]
    return ([0] + [max(numbers + [0]) + 1] * many)[:many]


def run_up_to(closed, service, last):
    """The run of the most that comes and the least that leaves, up to a last beat."""
    if last > MOST_LAST:
        raise TooMany(MOST_LAST)
    came = most_coming(closed, service, last + 1)
    return tuple(came), least_left(came, service)


def wait_run(promise, service):
    """A run that comes to the longest wait; None if waits have no end."""
    need_two(promise, service)
    closed = closure(promise)
    found = wait_of(closed, service)
    return None if found is None else run_up_to(closed, service, found[0] + found[1])


def heap_run(promise, service):
    """A run that comes to the greatest heap; None if heaps have no end."""
    need_two(promise, service)
    closed = closure(promise)
    found = heap_of(closed, service)
    return None if found is None else run_up_to(closed, service, found[1])


def goes_out(promise, service):
    """The least promise that all keeps that goes out; None if heaps have no end."""
    need_two(promise, service)
    return output_of(closure(promise), service)


def output_of(closed, service):
    """What goes_out tells, of a closed curve."""
    if not has_greatest_gap(closed, service):
        return None
    if has_none(closed):
        return unit()
    many = len(closed.start) + 1
    if has_none(service):
        row = later_gaps(closed, service, first_none(service), many)
    else:
        front = max(1, regular_from(service))
        row = later_gaps(closed, service, front, many)
        ring = first_values(service, front + service.period)[front:]
        best = best_in_rounds(closed, service, many + len(ring) + front)
        for beat in range(1, many):
            ahead = best[beat + front:]
            row[beat] = max([row[beat]] + [one - two for one, two in zip(ahead, ring)])
    return made(row, closed.period, closed.growth)


def later_gaps(closed, service, beats, many):
    """At the first many beats the most by which the closed curve is above an earlier value of the service.

    Those below beats are looked at, where the service has nothing at beat 0;
    at beat 0 it is 0.
    """
    row = first_values(closed, many + beats)
    its = first_values(service, beats)[1:]
    told = [0]
    for beat in range(1, many):
        told.append(max([row[beat]] + [one - two for one, two in zip(row[beat + 1:], its)]))
    return told


def best_in_rounds(closed, service, many):
    """At the first many beats the most that a closed curve has some rounds of the service later, less what these give.

    For curves without a None, of which the service does not grow slower.
    After so many rounds as are looked at all comes again, and no better.
    """
    period, growth = service.period, service.growth
    rounds = closed.period // gcd(closed.period, period)
    begin = regular_from(closed)
    best = []
    for beat in range(begin, begin + closed.period):
        best.append(max([at(closed, beat + turn * period) - turn * growth for turn in range(rounds)]))
    while len(best) < many - begin:
        best.append(best[len(best) - closed.period] + closed.growth)
    front = list(closed.start[:begin])
    for beat in range(begin - 1, -1, -1):
        behind = beat + period
        its = best[behind - begin] if behind >= begin else front[behind]
        front[beat] = max(front[beat], its - growth)
    return front + best


def out_run(promise, service, beats):
    """A run of which as much goes out in so many beats as can, and the beat behind which it does.

    None if there is no end to that.
    """
    need_two(promise, service)
    need_number(beats, 1, 400, "beats")
    closed = closure(promise)
    told = output_of(closed, service)
    if told is None or at(told, beats) is None:
        return None
    begin = first_begin(closed, service, beats, at(told, beats))
    came, least = run_up_to(closed, service, begin + beats)
    return (came, least[:begin + 1] + came[begin + 1:]), begin


def first_begin(closed, service, beats, most):
    """The least beat of the service at which the closed curve, so many beats later, is so much above it."""
    ahead = first_values(closed, MOST_LAST + 1)[beats:]
    its = [0] + first_values(service, len(ahead))[1:]
    for begin, (one, two) in enumerate(zip(ahead, its)):
        if two is not None and one - two == most:
            return begin
    raise TooMany(MOST_LAST)
