"""Changes of nets, and where something can be otherwise, hangs on something unlike, or is unlike behind them."""

from worstwait.errors import BadChange, NotLet
from worstwait.kinds import is_word
from worstwait.netbounds import Doors, net_bounds
from worstwait.nets import MOST_FLOWS, MOST_SERVERS, Net, in_sequence, is_flow, is_server, need_net, stops


def is_change(thing):
    """Whether it is a change."""
    if not isinstance(thing, tuple) or not thing or not isinstance(thing[0], str):
        return False
    if thing[0] in ("close", "gone"):
        return len(thing) == 2 and is_word(thing[1])
    if thing[0] == "server":
        return is_server(thing[1:])
    return thing[0] == "flow" and is_flow(thing[1:])


def need_change(net, change):
    """Raise the errors of what is no net and of what is no change."""
    need_net(net)
    if not is_change(change):
        raise BadChange("a change of a server or of a flow is wanted")


def words_of(rows):
    """The words of servers, or of flows."""
    return [row[0] for row in rows]


def put_in(rows, row):
    """Servers, or flows, with one more, or one in the place of that of its word, ascending."""
    others = [one for one in rows if one[0] != row[0]]
    return tuple(sorted(others + [row], key=lambda one: one[0]))


def left_out(rows, word):
    """Servers, or flows, without that of a word."""
    return tuple([row for row in rows if row[0] != word])


def changed(net, change):
    """The net behind a change."""
    need_change(net, change)
    kind = change[0]
    if kind == "server":
        return with_server(net, change[1:])
    if kind == "close":
        return without_server(net, change[1])
    if kind == "flow":
        return with_flow(net, change[1:])
    if change[1] not in words_of(net.flows):
        raise NotLet("word")
    return Net(net.servers, left_out(net.flows, change[1]))


def with_server(net, server):
    """The net with this server."""
    servers = put_in(net.servers, server)
    if len(servers) > MOST_SERVERS:
        raise NotLet("many")
    return Net(servers, net.flows)


def without_server(net, word):
    """The net without a server."""
    if word not in words_of(net.servers):
        raise NotLet("word")
    if any([word in flow[2] for flow in net.flows]):
        raise NotLet("used")
    if len(net.servers) == 1:
        raise NotLet("last")
    return Net(left_out(net.servers, word), net.flows)


def with_flow(net, flow):
    """The net with this flow."""
    words = words_of(net.servers)
    if not all([server in words for server in flow[2]]):
        raise NotLet("word")
    flows = put_in(net.flows, flow)
    if len(flows) > MOST_FLOWS:
        raise NotLet("many")
    if len(in_sequence(words, flows)) < len(words):
        raise NotLet("ring")
    return Net(net.servers, flows)


def counted_at(net, word):
    """The stops at which a flow counts."""
    told = []
    for one in [flow for flow in net.flows if flow[0] == word]:
        for other in net.flows:
            if other[0] != word and one[3] <= other[3]:
                told.extend([(other[0], server) for server in other[2] if server in one[2]])
    return told


def spread(net, change):
    """The stops of the changed net at which something can be otherwise, ascending."""
    behind = changed(net, change)
    word = change[1]
    there = stops(behind)
    found = []
    if change[0] == "server":
        found = [stop for stop in there if stop[1] == word]
    elif change[0] != "close":
        found = [stop for stop in there if stop[0] == word] + counted_at(behind, word) + counted_at(net, word)
    told = {}
    while found:
        stop = found.pop()
        if stop in there and stop not in told:
            told[stop] = True
            found.extend(stops_hanging_on(behind, stop))
    return sorted(list(told))


def stops_hanging_on(net, stop):
    """The stops at which the door of a flow behind a stop counts."""
    word, server = stop
    path = [flow[2] for flow in net.flows if flow[0] == word][0]
    place = path.index(server) + 1
    if place == len(path):
        return []
    behind = path[place]
    return [(word, behind)] + [one for one in counted_at(net, word) if one[1] == behind]


def touched(net, change):
    """The stops of the changed net that hang on something unlike, ascending."""
    behind = changed(net, change)
    before = Doors(net)
    after = Doors(behind)
    there = stops(net)
    return [stop for stop in stops(behind) if stop not in there or not hangs_alike(before, after, stop)]


def hangs_alike(before, after, stop):
    """Whether all on which a stop of two nets hangs is alike in both."""
    flow, server = stop
    counting = before.counting(flow, server)
    if before.curves[server] != after.curves[server] or counting != after.counting(flow, server):
        return False
    words = [flow] + counting
    return all([before.door_at(word, server) == after.door_at(word, server) for word in words])


def unlike_bounds(net, other):
    """The quadruples (flow, server, before, behind) of all bounds that are unlike in two nets, ascending."""
    need_net(net)
    need_net(other)
    return unlike_of(net_bounds(net), net_bounds(other))


def unlike_of(bounds, other):
    """What unlike_bounds tells, of what net_bounds tells of both nets."""
    before = by_stops(bounds)
    behind = by_stops(other)
    places = sorted(list(before) + [place for place in behind if place not in before])
    pairs = [(place, before.get(place), behind.get(place)) for place in places]
    return [place + (one, two) for place, one, two in pairs if one != two]


def by_stops(bounds):
    """The dict of the bounds at each stop, a pair, and with "" as the server of each whole wait, alone in a tuple."""
    told = {}
    for word, (whole, rows) in bounds.items():
        told[word, ""] = (whole,)
        for server, wait, heap in rows:
            told[word, server] = wait, heap
    return told
