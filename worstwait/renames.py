"""Nets with other words: renamed, and whether one is another one renamed."""

from itertools import permutations

from worstwait.errors import BadNames
from worstwait.kinds import has_just, is_word
from worstwait.nets import Net, need_net


def is_renaming(thing, words):
    """Whether it is a dict from just these words to unlike words."""
    if not has_just(thing, words):
        return False
    told = list(thing.values())
    return all([is_word(word) for word in told]) and len(set(told)) == len(told)


def renamed_net(net, servers, flows):
    """The net with these words for its servers and its flows."""
    need_net(net)
    if not is_renaming(servers, [server[0] for server in net.servers]):
        raise BadNames("unlike words for all servers are wanted")
    if not is_renaming(flows, [flow[0] for flow in net.flows]):
        raise BadNames("unlike words for all flows are wanted")
    new_servers = [(servers[word], curve) for word, curve in net.servers]
    new_flows = []
    for word, promise, path, rank in net.flows:
        new_path = tuple([servers[server] for server in path])
        new_flows.append((flows[word], promise, new_path, rank))
    by_word = sorted(new_servers, key=lambda server: server[0])
    return Net(tuple(by_word), tuple(sorted(new_flows, key=lambda flow: flow[0])))


def net_renaming(net, other):
    """A pair of dicts with which the net becomes the other one; None without one."""
    need_net(net)
    need_net(other)
    if len(net.servers) != len(other.servers) or len(net.flows) != len(other.flows):
        return None
    curves = unlike_curves(net, other)
    flows = plain_flows(net, curves)
    wanted = plain_flows(other, curves)
    faces = server_faces(net, curves, flows)
    other_faces = server_faces(other, curves, wanted)
    for places in permutations(range(len(faces))):
        if all([face == other_faces[place] for face, place in zip(faces, places)]):
            names = flow_names(flows, wanted, places)
            if names is not None:
                return told_words(net, other, places, names)
    return None


def unlike_curves(net, other):
    """A list in which each curve of the two nets stands once."""
    curves = []
    for one in (net, other):
        for curve in [server[1] for server in one.servers] + [flow[1] for flow in one.flows]:
            if curve not in curves:
                curves.append(curve)
    return curves


def plain_flows(net, curves):
    """The flows without words: place of the promise, rank, places of the path's servers."""
    words = [server[0] for server in net.servers]
    told = []
    for word, promise, path, rank in net.flows:
        places = tuple([words.index(server) for server in path])
        told.append((curves.index(promise), rank, places))
    return told


def server_faces(net, curves, flows):
    """What each server looks like by itself, without words.

    Servers that stand for one another look alike, so that few ways of
    exchanging them are left to be tried in full.
    """
    faces = []
    for place, (word, curve) in enumerate(net.servers):
        seen = []
        for promise, rank, path in flows:
            if place in path:
                seen.append((promise, rank, path.index(place), len(path)))
        faces.append((curves.index(curve), sorted(seen)))
    return faces


def flow_names(flows, wanted, places):
    """For each flow the place of the one it becomes if servers go to these places.

    None if there is no such one for each of them.
    """
    left = list(range(len(wanted)))
    names = []
    for promise, rank, path in flows:
        moved = promise, rank, tuple([places[place] for place in path])
        fitting = [one for one in left if wanted[one] == moved]
        if not fitting:
            return None
        names.append(fitting[0])
        left.remove(fitting[0])
    return names


def told_words(net, other, places, names):
    """The pair of the dicts of words that go with these places."""
    servers = {}
    for server, place in zip(net.servers, places):
        servers[server[0]] = other.servers[place][0]
    flows = {}
    for flow, place in zip(net.flows, names):
        flows[flow[0]] = other.flows[place][0]
    return servers, flows
