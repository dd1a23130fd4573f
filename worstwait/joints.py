"""Promises joined: all of them kept at once, or one of them."""

from worstwait.closures import closure
from worstwait.curves import Curve
from worstwait.errors import BadCurve
from worstwait.joined import least_of, most_of
from worstwait.kinds import is_list


def need_promises(promises):
    """Raise the error of what is no list of 1 to 8 curves unless it is one."""
    if not is_list(promises) or not 1 <= len(promises) <= 8:
        raise BadCurve("promises")
    if not all([isinstance(promise, Curve) for promise in promises]):
        raise BadCurve("promises")


def joint(promises):
    """The closed promise that just those traffics keep that keep all of them."""
    need_promises(promises)
    least = promises[0]
    for promise in promises[1:]:
        least = least_of(least, promise)
    return closure(least)


def either(promises):
    """The least curve that every traffic keeps that keeps one of them."""
    need_promises(promises)
    closures = [closure(promise) for promise in promises]
    most = closures[0]
    for one in closures[1:]:
        most = most_of(most, one)
    return most
