"""Rests: what may still come behind a traffic that keeps a promise."""

from worstwait.closures import closure
from worstwait.curves import at, first_values, flat, has_none, is_above, made, need_curve
from worstwait.errors import BadMeter, BadNumber, NotKept
from worstwait.kinds import is_number
from worstwait.promises import breach
from worstwait.traffics import need_traffic, running


def need_kept(traffic, promise):
    """Raise the errors of what is no traffic that keeps a promise unless it is one."""
    need_curve(promise)
    need_traffic(traffic)
    found = breach(traffic, promise)
    if found is not None:
        raise NotKept(found)


def rest_of(traffic, promise):
    """The curve of how many letters can come in the beats behind a traffic."""
    need_kept(traffic, promise)
    closed = closure(promise)
    if has_none(closed):
        return closed
    came = running(traffic)[::-1]
    many = len(closed.start)
    most = first_values(closed, many + len(came))
    row = []
    for beat in range(many):
        let = min([one + two for one, two in zip(came, most[beat:])])
        row.append(let - came[0])
    return made(row, closed.period, closed.growth)


def room(traffic, promise):
    """How many letters can come in the beat behind a traffic; None without a greatest number."""
    return at(rest_of(traffic, promise), 1)


class Meter:
    """Meters a traffic beat by beat: closed is the promise's closure, rest what may still come."""

    def __init__(self, promise):
        self.closed = closure(promise)
        self.rest = self.closed

    def __eq__(self, other):
        if not isinstance(other, Meter):
            return False
        return self.closed == other.closed and self.rest == other.rest


def metered(meter, letters):
    """The meter behind one beat more, at which so many letters came."""
    if not isinstance(meter, Meter):
        raise BadMeter("a meter is wanted")
    if not is_number(letters) or letters < 0:
        raise BadNumber("letters")
    if is_above(letters, at(meter.rest, 1)):
        raise NotKept(None)
    behind = Meter(flat(0))
    behind.closed = meter.closed
    behind.rest = meter.rest
    if not has_none(meter.closed):
        closed = meter.closed
        row = row_behind(closed, first_values(meter.rest, len(closed.start)), letters)
        behind.rest = made(row, closed.period, closed.growth)
    return behind


def row_behind(closed, row, letters):
    """The rest behind one beat more: as many values as closed, without a None, has at its start."""
    later_row = row[1:] + [row[len(row) - closed.period] + closed.growth]
    return [min(one - letters, two) for one, two in zip(later_row, closed.start)]
