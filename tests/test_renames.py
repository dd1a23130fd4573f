"""[84]: nets with other words."""

import unittest
from itertools import permutations

from worstwait.curves import flat, late, line
from worstwait.errors import BadNames, BadNet
from worstwait.netbounds import net_bounds, server_heap
from worstwait.nets import Net
from worstwait.renames import net_renaming, renamed_net
from tests.plain import Case, Lots
from tests.test_netbounds import small_net
from tests.test_nets import G, NO_NETS, P, some_net


def words_of(net):
    return [word for word, _ in net.servers], [flow[0] for flow in net.flows]


def mixed(lots, words):
    left, told = list(words), []
    while left:
        told.append(left.pop(lots.below(len(left))))
    return told


def some_renaming(lots, net):
    servers, flows = words_of(net)
    return (dict(zip(servers, mixed(lots, ["aa", "b", "hub", "m", "n", "out", "zz", "q"])[:len(servers)])),
            dict(zip(flows, mixed(lots, "abpqrstu")[:len(flows)])))


def plain_renamed(net, servers, flows):
    told = [(flows[word], promise, tuple(servers[one] for one in path), rank)
            for word, promise, path, rank in net.flows]
    return Net(tuple(sorted([(servers[word], curve) for word, curve in net.servers], key=lambda s: s[0])),
               tuple(sorted(told, key=lambda flow: flow[0])))


def plain_exchange(net, other):
    """Whether some way of exchanging all words makes the one the other, by trying all."""
    servers, flows = words_of(net)
    new_servers, new_flows = words_of(other)
    if (len(servers), len(flows)) != (len(new_servers), len(new_flows)):
        return False
    return any(plain_renamed(net, dict(zip(servers, one)), dict(zip(flows, two))) == other
               for one in permutations(new_servers) for two in permutations(new_flows))


class Renamed(Case):
    def test_words(self):
        lots = Lots(161)
        for _ in range(120):
            net = some_net(lots)
            servers, flows = some_renaming(lots, net)
            told = renamed_net(net, servers, flows)
            self.assertEqual(told, plain_renamed(net, servers, flows))
            back = {new: old for old, new in servers.items()}, {new: old for old, new in flows.items()}
            self.assertEqual(renamed_net(told, *back), net)

    def test_bounds_of_renamed_nets(self):
        lots = Lots(162)
        for _ in range(60):
            net = small_net(lots)
            servers, flows = some_renaming(lots, net)
            told = {flows[word]: (whole, tuple((servers[server], wait, heap) for server, wait, heap in rows))
                    for word, (whole, rows) in net_bounds(net).items()}
            renamed = renamed_net(net, servers, flows)
            self.assertEqual(net_bounds(renamed), told)
            self.assertEqual(list(net_bounds(renamed)), sorted(told))
            for word, new in servers.items():
                self.assertEqual(server_heap(renamed, new), server_heap(net, word))

    def test_refuses(self):
        net = Net((("a", G), ("b", G)), (("x", P, ("a", "b"), 0), ("y", P, ("a",), 0)))
        servers, flows = {"a": "b", "b": "a"}, {"x": "y", "y": "x"}
        renamed_net(net, servers=servers, flows=flows)
        for wrong in (None, [], {}, {"a": "b"}, {"a": "b", "b": "b"}, {"a": "b", "b": "A"}, {"a": "b", "b": ""},
                      {"a": "b", "b": "z" * 13}, {"a": "b", "b": 1}, {"a": "b", "c": "a"}, ("a", "b"),
                      {"a": "b", "b": "a", "c": "c"}, {"a": "b", "b": None}, {"a": "b", "b": ["a"]},
                      (("a", "b"), ("b", "a"))):
            self.refuses(BadNames, renamed_net, net, wrong, flows)
            other = {{"a": "x", "b": "y"}.get(k, k): v for k, v in wrong.items()} if isinstance(wrong, dict) \
                else wrong
            self.refuses(BadNames, renamed_net, net, servers, other)
        self.assertEqual(renamed_net(net, {"a": "z" * 12, "b": "c"}, flows).servers[1][0], "z" * 12)


class Renamings(Case):
    def check(self, net, other):
        found = net_renaming(net, other)
        self.assertEqual(found is not None, plain_exchange(net, other))
        if found is not None:
            self.assertIs(type(found), tuple)
            servers, flows = found
            self.assertEqual(renamed_net(net, servers, flows), other)
        return found

    def test_exactly_if(self):
        lots = Lots(162)
        seen = {True: 0, False: 0}
        for _ in range(150):
            servers, flows = 1 + lots.below(3), lots.below(4)
            net = some_net(lots, servers, flows)
            other = renamed_net(net, *some_renaming(lots, net))
            if lots.below(2):
                other = some_net(lots, servers, flows)
            seen[self.check(net, other) is not None] += 1
        self.assertGreater(min(seen.values()), 30)

    def test_small_differences(self):
        one = Net((("a", G), ("b", G)), (("x", P, ("a", "b"), 0), ("y", P, ("a",), 0)))
        for other in (Net((("a", G), ("b", G)), (("x", P, ("a", "b"), 0), ("y", P, ("b",), 0))),
                      Net((("a", G), ("b", late(2, 2, 1))), one.flows),
                      Net(one.servers, (one.flows[0], ("y", P, ("a",), 1))),
                      Net(one.servers, (one.flows[0], ("y", line(3, 1, 1), ("a",), 0))),
                      Net(one.servers, one.flows[:1]), Net(one.servers + (("c", G),), one.flows)):
            self.assertIsNone(self.check(one, other))
            self.assertIsNone(self.check(other, one))
        self.assertEqual(self.check(one, one), ({"a": "a", "b": "b"}, {"x": "x", "y": "y"}))
        other = Net(one.servers, (("p", P, ("b",), 0), ("q", P, ("b", "a"), 0)))
        self.assertEqual(self.check(one, other), ({"a": "b", "b": "a"}, {"x": "q", "y": "p"}))

    def test_eight_servers_alike(self):
        servers = tuple((word, G) for word in "abcdefgh")

        def net(*paths):
            return Net(servers, tuple(("pqrstuvw"[k], P, tuple(path), 0) for k, path in enumerate(paths)))
        # Two lines of four, and one of three beside one of five; each server is on two paths.
        ring = net("ab", "cb", "cd", "ed", "ef", "gf", "gh", "ah")
        rings = net("ab", "cb", "cd", "ad", "ef", "gf", "gh", "eh")
        self.assertIsNone(net_renaming(ring, rings))
        lots = Lots(163)
        for _ in range(5):
            for one in (ring, rings):
                other = renamed_net(one, *some_renaming(lots, one))
                self.assertEqual(renamed_net(one, *net_renaming(one, other)), other)
        bare = Net(servers, ())
        self.assertEqual(renamed_net(bare, *net_renaming(bare, bare)), bare)

    def test_curves_no_texts_tell(self):
        one = Net((("a", flat(0)), ("b", line(0, 10 ** 9, 1))), ())
        other = Net((("a", line(0, 10 ** 9, 1)), ("b", flat(0))), ())
        self.assertEqual(net_renaming(one, other), ({"a": "b", "b": "a"}, {}))

    def test_refuses(self):
        net = Net((("a", G),), ())
        for thing in NO_NETS:
            self.refuses(BadNet, net_renaming, thing, net, part=None)
            self.refuses(BadNet, net_renaming, net, thing, part=None)


if __name__ == "__main__":
    unittest.main()
