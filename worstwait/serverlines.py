"""Servers in a line are one server, for which a burst is paid once."""

from worstwait.bounds import output_of, wait_of
from worstwait.closures import closure
from worstwait.curves import Curve, need_curve
from worstwait.errors import BadServices
from worstwait.fewparts import of_one_part
from worstwait.foldings import folding
from worstwait.kinds import is_list

MOST_SERVERS = 8


def need_services(thing):
    """Raise the error of what is no list of 1 to 8 curves unless it is one."""
    if not is_list(thing) or not 1 <= len(thing) <= MOST_SERVERS:
        raise BadServices("a list of 1 to 8 curves is wanted")
    if not all([isinstance(one, Curve) for one in thing]):
        raise BadServices("a list of 1 to 8 curves is wanted")


def in_line(services):
    """The one service that servers in a line keep together."""
    need_services(services)
    told = of_one_part(services[0])
    for service in services[1:]:
        told = folding(told, of_one_part(service))
    return told


def waits_in_line(promise, services):
    """The longest wait in the whole line, and the list of those at each server; None for without end."""
    need_curve(promise)
    need_services(services)
    closed = closure(promise)
    whole = wait_of(closed, in_line(services))
    each = []
    for service in services:
        found = None if closed is None else wait_of(closed, service)
        each.append(None if found is None else found[0])
        if found is None:
            break
        closed = output_of(closed, service)
    return None if whole is None else whole[0], each
