"""Nets: servers, and flows along paths of servers without rings."""

from worstwait.curves import Curve, at
from worstwait.errors import BadNet
from worstwait.kinds import is_from, is_word

MOST_SERVERS = 8
MOST_FLOWS = 8


class Net:
    """A net: servers (pairs) and flows (quadruples) as handed in."""

    def __init__(self, servers, flows):
        if not is_servers(servers):
            raise BadNet("servers")
        words = [word for word, curve in servers]
        if not is_flows(flows, words):
            raise BadNet("flows")
        if len(in_sequence(words, flows)) < len(words):
            raise BadNet("ring")
        self.servers = servers
        self.flows = flows

    def __eq__(self, other):
        if not isinstance(other, Net):
            return False
        return self.servers == other.servers and self.flows == other.flows


def is_server(thing):
    """Whether it is a pair of a word and a curve that is 0 at beat 0."""
    if not isinstance(thing, tuple) or len(thing) != 2 or not is_word(thing[0]):
        return False
    return isinstance(thing[1], Curve) and at(thing[1], 0) == 0


def is_servers(thing):
    """Whether it is a tuple of 1 to 8 servers, their words ascending."""
    if not isinstance(thing, tuple) or not 1 <= len(thing) <= MOST_SERVERS:
        return False
    return all([is_server(server) for server in thing]) and ascends([server[0] for server in thing])


def ascends(words):
    """Whether each word is above the one ahead of it."""
    return all([one < two for one, two in zip(words, words[1:])])


def is_path(thing):
    """Whether it is a tuple of 1 to 6 words, no two alike."""
    if not isinstance(thing, tuple) or not 1 <= len(thing) <= 6:
        return False
    return all([is_word(word) for word in thing]) and len(set(thing)) == len(thing)


def is_flow(thing):
    """Whether it is a quadruple of a word, a promise, a path and a rank."""
    if not isinstance(thing, tuple) or len(thing) != 4:
        return False
    word, promise, path, rank = thing
    if not is_word(word) or not isinstance(promise, Curve):
        return False
    return is_path(path) and is_from(rank, 0, 99)


def is_flows(thing, words):
    """Whether it is a tuple of 0 to 8 flows along these servers, their words ascending."""
    if not isinstance(thing, tuple) or len(thing) > MOST_FLOWS:
        return False
    if not all([is_flow(flow) for flow in thing]):
        return False
    if not all([server in words for flow in thing for server in flow[2]]):
        return False
    return ascends([flow[0] for flow in thing])


def in_sequence(words, flows):
    """The servers, each time the least one left with none left right ahead of it.

    Those of a ring, and those behind them, never come.
    """
    links = [link for flow in flows for link in zip(flow[2], flow[2][1:])]
    told = []
    left = list(words)
    while left:
        held = [behind for ahead, behind in links if ahead in left]
        free = [word for word in left if word not in held]
        if not free:
            return told
        told.append(min(free))
        left.remove(min(free))
    return told


def need_net(thing):
    """Raise the error of what is no net unless it is one."""
    if not isinstance(thing, Net):
        raise BadNet(None)


def stops(net):
    """The ascending list of all pairs of a flow and a server on its path."""
    need_net(net)
    return sorted([(flow[0], server) for flow in net.flows for server in flow[2]])


def sequence(net):
    """The words of all servers, each behind those right ahead of it."""
    need_net(net)
    return in_sequence([word for word, curve in net.servers], net.flows)
