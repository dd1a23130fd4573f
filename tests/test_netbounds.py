"""[91]: bounds of nets."""

import unittest

from worstwait.bounds import goes_out, greatest_heap, longest_wait
from worstwait.closures import closure
from worstwait.curves import Curve, flat, late, line
from worstwait.errors import BadFlow, BadNet, BadServer, BadStop, TooMany
from worstwait.foldings import unit
from worstwait.joined import later, sum_of, times
from worstwait.netbounds import door_of, left_of, net_bounds, server_heap, stop_bounds, whole_wait
from worstwait.nets import Net, stops
from worstwait.ranks import left_by_rank
from worstwait.serverlines import in_line
from tests.plain import Case, Lots, long_curve, some_curve
from tests.test_closures import two_parts
from tests.test_nets import NO_NETS

NO_WORDS = (None, 0, True, "", "X", [], ("x",), "zz", {}, [["x"]])


def some_server(lots):
    kind = lots.below(5)
    if kind == 0:
        return late(lots.below(3), 1 + lots.below(4), 1 + lots.below(2))
    if kind == 1:
        return line(0, 1 + lots.below(5), 1 + lots.below(3))
    if kind == 2 and lots.below(3) == 0:
        return Curve([0] * (1 + lots.below(2)) + [None], 1, 0)
    row = some_curve(lots, 5, 6, False)
    return Curve([0] + list(row.start), row.period, row.growth)


def some_promise(lots):
    if lots.below(2):
        return line(lots.below(4), 1, 1 + lots.below(4))
    return lots.of([flat(lots.below(4)), some_curve(lots, 4, 4)])


def some_flow(lots, word, servers):
    """servers stand in a sequence in which all paths go, so that there is no ring."""
    path = tuple([one for one in servers if lots.below(2)][:6]) or (servers[0],)
    return word, some_promise(lots), path, lots.below(3)


def small_net(lots, most=4):
    words = ["cab", "a", "b", "hub"][:1 + lots.below(most)]
    flows = [some_flow(lots, word, words) for word in "pqrst"[:lots.below(6)]]
    return Net(tuple((word, some_server(lots)) for word in sorted(words)), tuple(flows))


class Plain:
    """A net, looked at as [91] tells it, by the functions of [43] to [47]."""

    def __init__(self, net):
        self.servers = dict(net.servers)
        self.flows = {flow[0]: flow for flow in net.flows}

    def counting(self, word, server):
        return [one for one, (_, _, path, rank) in self.flows.items()
                if one != word and server in path and rank <= self.flows[word][3]]

    def door(self, word, server):
        _, promise, path, _ = self.flows[word]
        if path[0] == server:
            return closure(promise)
        ahead = path[path.index(server) - 1]
        out = goes_out(self.door(word, ahead), self.left(word, ahead))
        return Curve([0, None], 1, 0) if out is None else out

    def left(self, word, server):
        return left_by_rank(self.servers[server], [self.door(one, server) for one in self.counting(word, server)])

    def bounds(self, word, server):
        door, left = self.door(word, server), self.left(word, server)
        return tuple(None if one is None else one[0] for one in (longest_wait(door, left), greatest_heap(door, left)))

    def whole(self, word):
        path = self.flows[word][2]
        found = longest_wait(self.flows[word][1], in_line([self.left(word, server) for server in path]))
        return None if found is None else found[0]

    def heap(self, server):
        total = flat(0)
        for word, flow in self.flows.items():
            if server in flow[2]:
                total = sum_of(total, self.door(word, server))
        found = greatest_heap(total, self.servers[server])
        return None if found is None else found[0]


class Bounds(Case):
    def test_as_told(self):
        lots = Lots(581)
        ends = {True: 0, False: 0}
        for _ in range(120):
            net = small_net(lots)
            plain = Plain(net)
            told = net_bounds(net)
            self.assertEqual(list(told), [flow[0] for flow in net.flows])
            for word, server in stops(net):
                self.assertEqual(door_of(net, word, server), plain.door(word, server))
                self.assertEqual(left_of(net, word, server), plain.left(word, server))
                self.assertEqual(stop_bounds(net, word, server), plain.bounds(word, server))
            for word, _, path, _ in net.flows:
                whole = plain.whole(word)
                self.assertEqual(whole_wait(net, word), whole)
                rows = tuple((server,) + plain.bounds(word, server) for server in path)
                self.assertEqual(told[word], (whole, rows))
                waits = [row[1] for row in rows]
                ends[None in waits] += 1
                if None not in waits:
                    self.assertLessEqual(whole, sum(waits))
            for server, _ in net.servers:
                self.assertEqual(server_heap(net, server), plain.heap(server))
        self.assertGreater(min(ends.values()), 30)

    def test_by_hand(self):
        net = Net((("s", late(1, 2, 1)),), (("x", line(2, 0, 1), ("s",), 0), ("y", line(0, 1, 1), ("s",), 1)))
        self.assertEqual(left_of(net, "x", "s"), late(1, 2, 1))
        self.assertEqual(left_of(net, "y", "s"), late(2, 2, 1))
        self.assertEqual(net_bounds(net), {"x": (1, (("s", 1, 2),)), "y": (2, (("s", 2, 2),))})
        self.assertEqual(server_heap(net, "s"), 3)

    def test_ranks(self):
        def net(*ranks):
            return Net((("s", line(0, 3, 1)),),
                       tuple((word, line(2, 1, 1), ("s",), rank) for word, rank in zip("xyz", ranks)))
        for ranks, waits in (((0, 1, 2), (0, 2, 6)), ((2, 1, 0), (6, 2, 0)), ((5, 5, 5), (6, 6, 6)),
                             ((0, 0, 1), (2, 2, 6)), ((99, 0, 99), (6, 0, 6))):
            self.assertEqual(tuple(whole_wait(net(*ranks), word) for word in "xyz"), waits)

    def test_doors_without_end(self):
        net = Net((("a", Curve([0, 3, None], 1, 0)), ("b", line(0, 5, 1)), ("c", unit())),
                  (("x", flat(None), ("a", "c", "b"), 1), ("y", flat(2), ("b",), 1), ("z", flat(2), ("b",), 0)))
        self.assertEqual(door_of(net, "x", "a"), unit())
        self.assertEqual(door_of(net, "x", "c"), unit())
        self.assertEqual(door_of(net, "x", "b"), unit())
        self.assertEqual(stop_bounds(net, "x", "a"), (1, None))
        self.assertEqual(stop_bounds(net, "x", "c"), (0, 0))
        self.assertEqual(stop_bounds(net, "x", "b"), (None, None))
        self.assertEqual(left_of(net, "y", "b"), flat(0))
        self.assertEqual(stop_bounds(net, "y", "b"), (None, 2))
        self.assertEqual(stop_bounds(net, "z", "b"), (0, 0))
        self.assertEqual([server_heap(net, server) for server in "abc"], [None, None, 0])
        self.assertEqual(net_bounds(net)["y"], (None, (("b", None, 2),)))

    def test_no_flows(self):
        net = Net((("a", flat(0)), ("b", flat(0))), (("x", flat(1), ("b",), 0),))
        self.assertEqual(server_heap(net, "a"), 0)
        self.assertEqual(net_bounds(Net((("a", flat(0)),), ())), {})
        self.assertEqual(net_bounds(net), {"x": (None, (("b", None, 1),))})

    def test_6_servers_and_8_flows(self):
        words = tuple("abcdef")
        net = Net(tuple((word, line(0, 12, 1)) for word in words),
                  tuple((word, line(2, 1, 1), words, rank) for rank, word in enumerate("pqrstuvw")))
        told = net_bounds(net)
        self.assertEqual(len(told["w"][1]), 6)
        for word in "pqrstuvw":
            self.assertLessEqual(told[word][0], sum(row[1] for row in told[word][1]))
        self.assertLess(told["w"][0], sum(row[1] for row in told["w"][1]))

    def test_too_many(self):
        net = Net((("a", line(0, 9, 1)), ("b", line(0, 9, 1))), (("x", later(flat(1), 400), ("a",), 0),
                                                              ("y", two_parts(64, 10), ("b",), 0)))
        self.too_many(400, whole_wait, net, "x")
        self.too_many(4000, door_of, net, "y", "b")
        self.assertRaises(TooMany, net_bounds, net)
        net = Net((("a", long_curve(3000)), ("b", long_curve(3000))), (("x", flat(1), ("a", "b"), 0),))
        self.too_many(4000, whole_wait, net, "x")
        # Doors are closed already: no closure of one of more than 400 values is taken.
        net = Net((("a", times(line(0, 1, 1), 10 ** 9)),), (("x", two_parts(30, 20), ("a",), 0),
                                                           ("y", flat(1), ("a",), 0)))
        self.assertEqual(stop_bounds(net, "x", "a"), (0, 0))

    def test_refuses(self):
        net = Net((("a", line(0, 9, 1)), ("b", line(0, 9, 1))), (("x", flat(1), ("a",), 0), ("y", flat(1), ("b",), 0)))
        for thing in NO_NETS:
            for call in (door_of, left_of, stop_bounds):
                self.refuses(BadNet, call, thing, None, None, part=None)
            for call in (whole_wait, server_heap):
                self.refuses(BadNet, call, thing, None, part=None)
            self.refuses(BadNet, net_bounds, thing, part=None)
        for call in (door_of, left_of, stop_bounds):
            self.refuses(BadStop, call, net, "x", "b")
            for wrong in NO_WORDS:
                self.refuses(BadStop, call, net, wrong, "a")
                self.refuses(BadStop, call, net, "x", wrong)
        for wrong in NO_WORDS + ("a",):
            self.refuses(BadFlow, whole_wait, net, wrong)
        for wrong in NO_WORDS + ("x",):
            self.refuses(BadServer, server_heap, net, wrong)


if __name__ == "__main__":
    unittest.main()
