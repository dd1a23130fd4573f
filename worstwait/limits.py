"""Limits of whole waits: which flows break them, and how far a net can be changed until one does."""

from itertools import combinations

from worstwait.errors import BadLimits
from worstwait.joined import raised, times
from worstwait.kinds import is_from, need_number
from worstwait.netbounds import Doors, need_flow, need_server
from worstwait.nets import Net, need_net

MOST_LIMIT = 10 ** 6
MOST_TRIES = 200


def is_limit(thing):
    """Whether it is a number that may limit a whole wait."""
    return is_from(thing, 0, MOST_LIMIT)


def need_limits(net, limits):
    """Raise the errors of what is no net and of what are no limits of it."""
    need_net(net)
    words = [flow[0] for flow in net.flows]
    if not isinstance(limits, dict) or not all([word in words for word in limits]):
        raise BadLimits("a dict from words of flows to numbers is wanted")
    if not all([is_limit(most) for most in list(limits.values())]):
        raise BadLimits("a dict from words of flows to numbers is wanted")


def broken_limits(net, limits):
    """The flows whose whole wait is above its limit, ascending."""
    need_limits(net, limits)
    return broken_of(net, limits)


def broken_of(net, limits):
    """What broken_limits tells, of what is known to be right."""
    doors = Doors(net)
    told = []
    for word in sorted(list(limits)):
        wait = doors.whole(word)
        if wait is None or wait > limits[word]:
            told.append(word)
    return told


def burst_room(net, limits, flow, most):
    """How many letters more a flow may promise at once so that all limits are kept; None if they are not."""
    need_limits(net, limits)
    need_flow(net, flow)
    need_number(most, 0, MOST_TRIES, "most")
    told = None
    for number in range(most + 1):
        flows = [with_burst(one, number) if one[0] == flow else one for one in net.flows]
        if broken_of(Net(net.servers, tuple(flows)), limits):
            return told
        told = number
    return told


def with_burst(flow, number):
    """The flow with so many letters more at once."""
    word, promise, path, rank = flow
    return word, raised(promise, number), path, rank


def least_speed(net, limits, server, most):
    """The least number of times a server's curve with which all limits are kept; None if there is none."""
    need_limits(net, limits)
    need_server(net, server)
    need_number(most, 0, MOST_TRIES, "most")
    for number in range(most + 1):
        servers = [(word, times(curve, number) if word == server else curve) for word, curve in net.servers]
        if not broken_of(Net(tuple(servers), net.flows), limits):
            return number
    return None


def fewest_gone(net, limits):
    """The fewest flows without which all other limits are kept, of several the least list."""
    need_limits(net, limits)
    words = [flow[0] for flow in net.flows]
    for many in range(len(words) + 1):
        for gone in combinations(words, many):
            flows = [flow for flow in net.flows if flow[0] not in gone]
            left = {word: most for word, most in limits.items() if word not in gone}
            if not broken_of(Net(net.servers, tuple(flows)), left):
                return list(gone)
    return words
