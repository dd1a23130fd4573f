"""Bounds of nets: how long letters wait, and how many lie there at most, at each stop and in the whole."""

from worstwait.bounds import heap_of, output_of, wait_of
from worstwait.closures import closure
from worstwait.errors import BadFlow, BadServer, BadStop
from worstwait.foldings import unit
from worstwait.joined import sum_of
from worstwait.nets import need_net, stops
from worstwait.ranks import left_behind
from worstwait.serverlines import in_line


class Doors:
    """The doors and the lefts of a net's stops, each one worked out when it is first asked for."""

    def __init__(self, net):
        self.net = net
        self.curves = {word: curve for word, curve in net.servers}
        self.flows = {flow[0]: flow for flow in net.flows}
        self.doors = {}
        self.lefts = {}

    def door_at(self, flow, server):
        """What the letters of a flow keep when they come to a server."""
        stop = flow, server
        if stop not in self.doors:
            self.doors[stop] = self.door_told(flow, server)
        return self.doors[stop]

    def door_told(self, flow, server):
        """What door_at tells, worked out."""
        word, promise, path, rank = self.flows[flow]
        place = path.index(server)
        if place == 0:
            return closure(promise)
        ahead = path[place - 1]
        out = output_of(self.door_at(flow, ahead), self.left_at(flow, ahead))
        return unit() if out is None else out

    def left_at(self, flow, server):
        """What a flow is left of a server."""
        stop = flow, server
        if stop not in self.lefts:
            above = [self.door_at(other, server) for other in self.counting(flow, server)]
            self.lefts[stop] = left_behind(self.curves[server], above)
        return self.lefts[stop]

    def counting(self, flow, server):
        """The words of the flows that count at a stop, ascending."""
        rank = self.flows[flow][3]
        return [word for word in self.coming(server) if word != flow and self.flows[word][3] <= rank]

    def coming(self, server):
        """The words of the flows that come to a server, ascending."""
        return [flow[0] for flow in self.net.flows if server in flow[2]]

    def bounds_at(self, flow, server):
        """The longest wait and the greatest heap at a stop, None for none."""
        door = self.door_at(flow, server)
        left = self.left_at(flow, server)
        return number_of(wait_of(door, left)), number_of(heap_of(door, left))

    def whole(self, flow):
        """The longest wait of a flow's letters in the whole, None for none."""
        word, promise, path, rank = self.flows[flow]
        line = in_line([self.left_at(flow, server) for server in path])
        return number_of(wait_of(self.door_at(flow, path[0]), line))

    def bounds_of(self, flow):
        """What net_bounds tells of a flow."""
        path = self.flows[flow][2]
        return self.whole(flow), tuple([(server,) + self.bounds_at(flow, server) for server in path])


def number_of(found):
    """The number alone of what bounds tell, None for none."""
    return None if found is None else found[0]


def need_stop(net, flow, server):
    """Raise the errors of what is no net and of what is no stop of it."""
    if (flow, server) not in stops(net):
        raise BadStop("the words of a flow and of a server on its path are wanted")


def door_of(net, flow, server):
    """What the letters of a flow are known to keep when they come to a server."""
    need_stop(net, flow, server)
    return Doors(net).door_at(flow, server)


def left_of(net, flow, server):
    """What a flow is left of a server."""
    need_stop(net, flow, server)
    return Doors(net).left_at(flow, server)


def stop_bounds(net, flow, server):
    """The longest wait and the greatest heap of a flow at a server, None for none."""
    need_stop(net, flow, server)
    return Doors(net).bounds_at(flow, server)


def whole_wait(net, flow):
    """The longest wait of a flow's letters along its whole path, None for none."""
    need_net(net)
    need_flow(net, flow)
    return Doors(net).whole(flow)


def need_flow(net, flow):
    """Raise the error of what is no flow of a net unless it is the word of one."""
    if flow not in [one[0] for one in net.flows]:
        raise BadFlow("the word of a flow of the net is wanted")


def need_server(net, server):
    """Raise the error of what is no server of a net unless it is the word of one."""
    if server not in [one[0] for one in net.servers]:
        raise BadServer("the word of a server of the net is wanted")


def net_bounds(net):
    """For each flow its whole wait, and wait and heap at each server along its path."""
    need_net(net)
    doors = Doors(net)
    return {flow[0]: doors.bounds_of(flow[0]) for flow in net.flows}


def server_heap(net, server):
    """How many letters lie at a server at most, None for none."""
    need_net(net)
    need_server(net, server)
    doors = Doors(net)
    coming = [doors.door_at(flow, server) for flow in doors.coming(server)]
    if not coming:
        return 0
    most = coming[0]
    for door in coming[1:]:
        most = sum_of(most, door)
    return number_of(heap_of(most, doors.curves[server]))
