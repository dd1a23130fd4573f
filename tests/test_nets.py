"""[90]: nets."""

import unittest

from worstwait.curves import Curve, flat, late, line
from worstwait.errors import BadNet
from worstwait.nets import Net, sequence, stops
from worstwait.renames import renamed_net
from tests.plain import Case, Lots

G = late(1, 2, 1)
P = line(2, 1, 1)
NO_NETS = (None, 3, ((("a", G),), ()), "net", [])


def some_net(lots, servers=None, flows=None):
    """A net without rings: paths go up in some sequence of the servers."""
    many = 1 + lots.below(6) if servers is None else servers
    words = ["cab", "a", "b", "hub", "out", "z", "x", "q"][:many]
    order = []
    left = list(words)
    while left:
        order.append(left.pop(lots.below(len(left))))
    told = []
    for word in "pqrstuvw"[:lots.below(6) if flows is None else flows]:
        path = tuple([one for one in order if lots.below(2)][:6]) or (order[0],)
        told.append((word, lots.of([P, flat(2), flat(9)]), path, lots.below(3)))
    return Net(tuple((word, lots.of([G, line(0, 3, 1)])) for word in sorted(words)), tuple(told))


class Nets(Case):
    def test_attributes_and_equality(self):
        servers = (("hub", G), ("out", flat(0)))
        flows = (("x", P, ("hub", "out"), 0), ("y", flat(None), ("out",), 99))
        net = Net(servers, flows)
        self.assertEqual((net.servers, net.flows), (servers, flows))
        self.assertEqual(net, Net(servers=servers, flows=flows))
        for other in (Net(servers, ()), Net(servers, flows[:1]), Net((("hub", G), ("out", G)), flows),
                      Net(servers, (flows[0], ("y", flat(1), ("out",), 99)))):
            self.assertNotEqual(net, other)
        self.assertFalse(net == (servers, flows))

    def test_bad_servers(self):
        eight = tuple((word, G) for word in "abcdefgh")
        self.assertEqual(len(Net(eight, ()).servers), 8)
        for servers in (None, (), [("a", G)], (["a", G],), (("a", G, G),), (("a",),), (("A", G),), (("", G),),
                        (("a" * 13, G),), (("a", None),), (("a", flat(1)),), (("a", flat(None)),),
                        (("a", G), ("a", G)), (("b", G), ("a", G)), eight + (("i", G),), (("a", G), 3), 3, "a",
                        {"a": G}, ((1, G),), ((True, G),)):
            self.refuses(BadNet, Net, servers, None, part="servers")

    def test_bad_flows(self):
        servers = (("a", G), ("b", G))
        good = ("x", P, ("a", "b"), 0)
        eight = tuple((word, P, ("b",), 3) for word in "abcdefgh")
        self.assertEqual(len(Net(servers, eight).flows), 8)
        for flows in (None, [good], (list(good),), (good, good), (("y",) + good[1:], good), eight + (good,),
                      (good[:3],), (good + (1,),), (("X",) + good[1:],), (("x", [0], ("a",), 0),),
                      (("x", P, ["a"], 0),), (("x", P, (), 0),), (("x", P, ("a", "a"), 0),),
                      (("x", P, ("c",), 0),), (("x", P, "a", 0),), (("x", P, ("a",), -1),),
                      (("x", P, ("a",), 100),), (("x", P, ("a",), True),), (("x", P, ("a",), 1.0),),
                      (("x", P, ("a", 1), 0),), 3, {"x": good}, (("x", P, (("a",),), 0),)):
            self.refuses(BadNet, Net, servers, flows, part="flows")
        seven = tuple((word, G) for word in "abcdefg")
        self.assertEqual(len(stops(Net(seven, (("x", P, tuple("abcdef"), 0),)))), 6)
        self.refuses(BadNet, Net, seven, (("x", P, tuple("abcdefg"), 0),), part="flows")

    def test_rings(self):
        servers = tuple((word, G) for word in "abcd")
        for paths in (("ab", "ba"), ("ab", "bc", "ca"), ("abc", "cda"), ("bcd", "db"), ("abcd", "da")):
            flows = tuple(("xyz"[k], P, tuple(path), 0) for k, path in enumerate(paths))
            self.refuses(BadNet, Net, servers, flows, part="ring")
        for paths in (("ab", "bc", "ac"), ("abcd", "bd", "ac"), ("dcba", "db")):
            Net(servers, tuple(("xyz"[k], P, tuple(path), 0) for k, path in enumerate(paths)))

    def test_stops_and_sequence(self):
        lots = Lots(141)
        for _ in range(150):
            net = some_net(lots)
            told = stops(net)
            self.assertEqual(told, sorted(told))
            self.assertEqual(set(told), {(word, s) for word, _, path, _ in net.flows for s in path})
            self.assertEqual(len(told), sum(len(flow[2]) for flow in net.flows))
            left, order = sorted(word for word, _ in net.servers), []
            while left:
                ahead = {path[k + 1] for _, _, path, _ in net.flows for k in range(len(path) - 1)
                         if path[k] in left}
                order.append([word for word in left if word not in ahead][0])
                left.remove(order[-1])
            self.assertEqual(sequence(net), order)
        self.assertEqual(stops(Net((("a", G),), ())), [])
        net = Net((("a", G), ("b", G), ("c", G)), (("x", P, ("c", "a"), 0),))
        self.assertEqual(sequence(net), ["b", "c", "a"])
        self.assertEqual(stops(net), [("x", "a"), ("x", "c")])

    def test_refuses(self):
        for thing in NO_NETS:
            self.refuses(BadNet, stops, thing, part=None)
            self.refuses(BadNet, sequence, thing, part=None)
            self.refuses(BadNet, renamed_net, thing, None, None, part=None)


if __name__ == "__main__":
    unittest.main()
