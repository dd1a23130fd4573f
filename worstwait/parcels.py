"""Parcels: letters that are of use only if all of them are there."""

from worstwait.curves import first_none, first_values, has_none, made, need_curve
from worstwait.errors import BadNumber
from worstwait.kinds import is_from, is_list, need_number
from worstwait.lifts import lifted
from worstwait.traffics import need_row, running

MOST_SIZES = 400
MOST_SIZE = 10 ** 6


def whole_parcels(row, sizes):
    """At each beat how many letters of a row are in parcels of these sizes that are whole."""
    need_row(row)
    if not is_list(sizes) or len(sizes) > MOST_SIZES:
        raise BadNumber("sizes")
    if not all([is_from(size, 1, MOST_SIZE) for size in sizes]):
        raise BadNumber("sizes")
    ends = running(sizes)
    whole = 0
    told = []
    for letters in row:
        while whole + 1 < len(ends) and ends[whole + 1] <= letters:
            whole += 1
        told.append(ends[whole])
    return tuple(told)


def parcel_service(service, most):
    """What is left of a service for parcels of up to so many letters."""
    need_curve(service)
    need_number(most, 1, MOST_SIZE, "most")
    if has_none(service):
        end = max(1, first_none(service))
        return made([0] + [max(0, one - most + 1) for one in service.start[1:end]] + [None], 1, 0)
    row = first_values(service, len(service.start) + 1)[1:]
    return lifted([0], [one - most + 1 for one in row], service.period, service.growth, 0)


def parcel_promise(promise, most):
    """What whole parcels of up to so many letters keep of a promise."""
    need_curve(promise)
    need_number(most, 1, MOST_SIZE, "most")
    row = first_values(promise, len(promise.start) + 1)[1:]
    return made([0] + [None if one is None else one + most - 1 for one in row], promise.period, promise.growth)
