"""What is left to a flow beside others: by rank, and first come first."""

from math import lcm

from worstwait.closures import closure
from worstwait.curves import MOST_MADE, Curve, first_none, first_values, flat, has_none, made, need_curve
from worstwait.curves import regular_from
from worstwait.errors import BadServices, TooMany
from worstwait.kinds import is_list, need_number
from worstwait.lifts import lifted, running_most

MOST_ABOVE = 8
MOST_BEATS = 300
# How great a common period may be so that all its beats are looked at.
MOST_PERIOD = 10 ** 6


def need_above(thing):
    """Raise the error of what is no list of 0 to 8 curves unless it is one."""
    if not is_list(thing) or len(thing) > MOST_ABOVE:
        raise BadServices("a list of at most 8 curves is wanted")
    if not all([isinstance(one, Curve) for one in thing]):
        raise BadServices("a list of at most 8 curves is wanted")


def period_of_all(curves):
    """The least number that the periods of all curves divide, none of them having a None."""
    step = 1
    for curve in curves:
        step = lcm(step, curve.period)
    return step


def need_few(beats):
    """Raise the error of made curves if so many beats are too many to be looked at."""
    if beats > MOST_PERIOD:
        raise TooMany(MOST_MADE)


def growth_in(curve, step):
    """How much a curve grows in so many beats, a number of whole periods."""
    return step // curve.period * curve.growth


def spare_row(service, others, many):
    """At the first so many beats what the service gives beyond the sum of others, all numbers.

    At beat 0 the service gives nothing, whatever its value there is.
    """
    row = [0] + first_values(service, many)[1:]
    for other in others:
        row = [one - two for one, two in zip(row, first_values(other, many))]
    return row


def left_by_rank(service, above):
    """What is left of a service to a flow behind others that keep these promises."""
    need_curve(service)
    need_above(above)
    return left_behind(service, [closure(promise) for promise in above])


def left_behind(service, closures):
    """What left_by_rank tells, of others that keep these closures."""
    if has_none(service):
        end = max(1, first_none(service))
        return made(running_most(spare_ahead(service, closures, end)) + [None], 1, 0)
    if any([has_none(one) for one in closures]):
        return flat(0)
    step = period_of_all(closures + [service])
    gain = growth_in(service, step) - sum([growth_in(one, step) for one in closures])
    begin = max([1] + [regular_from(one) for one in closures + [service]])
    if gain <= 0:
        many = begin + step
        if gain < 0:
            many = min(many, no_more_from(service, step, gain))
        need_few(many)
        return made(running_most(spare_row(service, closures, many)), 1, 0)
    need_few(step)
    row = spare_row(service, closures, begin + 2 * step)
    front = running_most(row[:begin])
    return lifted(front, running_most(row[begin:]), step, gain, front[-1])


def no_more_from(service, step, gain):
    """From which beat on the service gives nothing beyond closures that grow faster.

    A closure is nowhere below what its rate tells.
    """
    period, growth = service.period, service.growth
    most = max([period * one - growth * beat for beat, one in enumerate(service.start)])
    return max(1, -(-most * step // (period * -gain)))


def spare_ahead(service, closures, end):
    """What a service gives beyond closures at the beats below end, 0 where one of these is None."""
    if any([has_none(one) for one in closures]):
        return [0] * end
    return spare_row(service, closures, end)


def left_first_come(service, others, beats):
    """What is left of a service to a flow, first come first, beside others that keep a promise."""
    need_curve(service)
    need_curve(others)
    need_number(beats, 0, MOST_BEATS, "beats")
    closed = closure(others)
    front = [0] * (beats + 1)
    if has_none(service):
        end = max(beats + 1, first_none(service))
        row = spare_behind(service, closed, beats, end)
        return made(front + [max(0, one) for one in least_from(row)] + [None], 1, 0)
    if has_none(closed):
        return flat(0)
    step = period_of_all([service, closed])
    gain = growth_in(service, step) - growth_in(closed, step)
    if gain < 0:
        return flat(0)
    need_few(step)
    begin = max(beats + 1, regular_from(service), beats + regular_from(closed))
    row = least_from(spare_behind(service, closed, beats, begin + 2 * step))
    return lifted(front, row[:begin + step - beats - 1], step, gain, 0)


def spare_behind(service, closed, beats, end):
    """What a service gives beyond others so many beats sooner, at the beats behind these, below end.

    0 where what others send is None.
    """
    row = first_values(service, end)[beats + 1:]
    its = first_values(closed, end)[1:]
    return [0 if two is None else one - two for one, two in zip(row, its)]


def least_from(row):
    """At each place the least number of a row from there on."""
    told = []
    for one in row[::-1]:
        told.append(one if not told or one < told[-1] else told[-1])
    return told[::-1]
