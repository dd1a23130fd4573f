"""Told bounds of stations: how long a letter of a flow waits, and how many lie there, at most."""

from worstwait.bounds import greatest_heap, longest_wait
from worstwait.curves import Curve
from worstwait.errors import BadPromises, NotTold
from worstwait.gates import gate_curve
from worstwait.joined import sum_of
from worstwait.kinds import is_list, need_number
from worstwait.ranks import left_by_rank
from worstwait.sharing import left_by_shares, left_by_turns
from worstwait.stations import need_station


def need_promises_of(station, promises, flow):
    """Raise the errors of what is no station, no promises for it, no flow of it."""
    need_station(station)
    if not is_list(promises) or len(promises) != station.flows:
        raise BadPromises("a list of a curve for each flow is wanted")
    if not all([isinstance(promise, Curve) for promise in promises]):
        raise BadPromises("a list of a curve for each flow is wanted")
    need_number(flow, 0, station.flows - 1, "flow")


def left_to(station, promises, flow):
    """The curve that a flow is left of a station's service."""
    need_promises_of(station, promises, flow)
    word, parts = station.rule
    if word == "come" and station.flows > 1:
        raise NotTold("what is left of a station of more flows, first come first, is not told")
    service = gate_curve(station.speeds)
    if word == "ranks":
        return left_by_rank(service, promises[:flow])
    if word == "turns":
        return left_by_turns(service, parts, flow)
    if word == "shares":
        return left_by_shares(service, parts, flow)
    return service


def coming_and_left(station, promises, flow):
    """The promise and the service that tell the bounds of a flow."""
    need_promises_of(station, promises, flow)
    if station.rule[0] != "come":
        return promises[flow], left_to(station, promises, flow)
    every = promises[0]
    for promise in promises[1:]:
        every = sum_of(every, promise)
    return every, gate_curve(station.speeds)


def told_wait(station, promises, flow):
    """How long a letter of a flow waits at most; None without end."""
    promise, service = coming_and_left(station, promises, flow)
    found = longest_wait(promise, service)
    return None if found is None else found[0]


def told_heap(station, promises, flow):
    """How many letters of a flow are left at most; None without end."""
    promise, service = coming_and_left(station, promises, flow)
    found = greatest_heap(promise, service)
    return None if found is None else found[0]
