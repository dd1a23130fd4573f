"""[93]: changes of nets."""

import unittest

from worstwait.changes import changed, is_change, spread, touched, unlike_bounds
from worstwait.curves import Curve, flat, late, line
from worstwait.errors import BadChange, BadNet, NotLet, TooMany
from worstwait.foldings import unit
from worstwait.joined import later
from worstwait.netbounds import door_of, left_of, net_bounds, stop_bounds
from worstwait.nets import Net, sequence, stops
from tests.plain import Case, Lots
from tests.test_netbounds import Plain, small_net, some_promise, some_server
from tests.test_nets import G, NO_NETS, P

NO_CHANGES = (None, 0, "close", (), [], ("close",), ("close", "a", "b"), ["close", "a"], ("close", 1), ("close", ""),
              ("close", "A"), ("gone",), ("gone", "x" * 13), ("gone", None), ("server", "a"), ("server", "a", None),
              ("server", "a", flat(1)), ("server", "a", flat(None)), ("server", "a", G, G), ("server", "", G),
              ("server", True, G), ("flow", "x", P, ("a",)), ("flow", "x", P, ("a",), 100), ("flow", "x", P, ("a",), -1),
              ("flow", "x", P, ("a",), True), ("flow", "x", P, ["a"], 0), ("flow", "x", P, (), 0),
              ("flow", "x", P, ("a", "a"), 0), ("flow", "x", P, ("A",), 0), ("flow", "x", P, tuple("abcdefg"), 0),
              ("flow", "x", None, ("a",), 0), ("flow", "X", P, ("a",), 0), ("flow", "x", P, ("a",), 0, 0),
              ("limit", "x", 1), (1, "a"), (None, "a"), (["close"], "a"), {"close": "a"}, ("x", G), ("CLOSE", "a"))


def some_change(lots, net):
    servers = [word for word, _ in net.servers]
    flows = [flow[0] for flow in net.flows]
    kind = lots.of(["server", "close", "flow", "flow", "gone"])
    if kind == "server":
        return kind, lots.of(servers + ["new"]), some_server(lots)
    if kind in ("close", "gone"):
        return kind, lots.of((servers if kind == "close" else flows) + ["new"])
    path = lots.of([tuple(one for one in servers if lots.below(2)), tuple(servers[::-1][:6]), (lots.of(servers),)])
    return kind, lots.of(flows + ["new"]), some_promise(lots), path or ("new",), lots.below(3)


def plain_changed(net, change):
    """The net behind a change, or why it is not let, as [93] tells them."""
    kind, word = change[:2]
    servers, flows = dict(net.servers), {flow[0]: flow for flow in net.flows}
    if kind == "server":
        servers[word] = change[2]
    if kind == "flow":
        if any(server not in servers for server in change[3]):
            return "word"
        flows[word] = change[1:]
    if kind == "close":
        if word not in servers:
            return "word"
        if any(word in flow[2] for flow in net.flows):
            return "used"
        if len(servers) == 1:
            return "last"
        del servers[word]
    if kind == "gone":
        if word not in flows:
            return "word"
        del flows[word]
    if len(servers) > 8 or len(flows) > 8:
        return "many"
    try:
        return Net(tuple(sorted(servers.items(), key=lambda one: one[0])),
                   tuple(flows[word] for word in sorted(flows)))
    except BadNet:
        return "ring"


def plain_spread(net, behind, change):
    """The stops of the changed net at which something can be otherwise, round by round until none is new."""
    def counts(which, word, stop):
        flows = {flow[0]: flow for flow in which.flows}
        flow, server = stop
        return (word in flows and flow in flows and word != flow and server in flows[word][2]
                and server in flows[flow][2] and flows[word][3] <= flows[flow][3])

    kind, word = change[:2]
    found = set()
    for stop in stops(behind):
        if kind == "server" and stop[1] == word or kind == "flow" and stop[0] == word:
            found.add(stop)
        if kind in ("flow", "gone") and (counts(behind, word, stop) or counts(net, word, stop)):
            found.add(stop)
    paths = {flow[0]: flow[2] for flow in behind.flows}
    while True:
        more = set()
        for flow, server in found:
            place = paths[flow].index(server) + 1
            if place < len(paths[flow]):
                nearby = paths[flow][place]
                more.add((flow, nearby))
                more |= {stop for stop in stops(behind) if stop[1] == nearby and counts(behind, flow, stop)}
        if more <= found:
            return sorted(found)
        found |= more


def plain_touched(net, behind):
    one, two = Plain(net), Plain(behind)
    told = []
    for word, server in stops(behind):
        if (word, server) not in stops(net):
            told.append((word, server))
            continue
        rows = [(plain.servers[server].start, plain.servers[server].period, plain.servers[server].growth,
                 [(other, vars(plain.door(other, server))) for other in [word] + sorted(plain.counting(word, server))])
                for plain in (one, two)]
        if rows[0] != rows[1]:
            told.append((word, server))
    return told


def plain_unlike(net, behind):
    rows = {}
    for place, which in enumerate((net, behind)):
        for word, (whole, stops_told) in net_bounds(which).items():
            rows.setdefault((word, ""), [None, None])[place] = (whole,)
            for server, wait, heap in stops_told:
                rows.setdefault((word, server), [None, None])[place] = (wait, heap)
    return [key + tuple(rows[key]) for key in sorted(rows) if rows[key][0] != rows[key][1]]


class Changes(Case):
    def test_is_change(self):
        for thing in (("server", "a", G), ("close", "a"), ("flow", "x", P, ("b", "a"), 99), ("gone", "x" * 12),
                      ("flow", "x", flat(None), tuple("abcdef"), 0), ("server", "zz", unit())):
            self.assertIs(is_change(thing), True)
        for thing in NO_CHANGES:
            self.assertIs(is_change(thing), False)

    def test_changed(self):
        lots = Lots(591)
        seen = {}
        for _ in range(600):
            net = small_net(lots)
            change = some_change(lots, net)
            self.assertTrue(is_change(change))
            wanted = plain_changed(net, change)
            if isinstance(wanted, str):
                for call in (changed, spread, touched):
                    self.refuses(NotLet, call, net, change, why=wanted)
                seen[wanted] = seen.get(wanted, 0) + 1
            else:
                self.assertEqual(changed(net, change), wanted)
                seen[change[0]] = seen.get(change[0], 0) + 1
        self.assertEqual(sorted(seen), ["close", "flow", "gone", "last", "ring", "server", "used", "word"])

    def test_not_let_in_sequence(self):
        net = Net((("a", G), ("b", G)), (("x", P, ("a", "b"), 0),))
        alone = Net((("a", G),), (("x", P, ("a",), 0),))
        for which, change, why in (
                (net, ("close", "c"), "word"), (net, ("gone", "a"), "word"), (net, ("flow", "y", P, ("a", "c"), 0), "word"),
                (net, ("close", "b"), "used"), (alone, ("close", "a"), "used"), (alone, ("close", "b"), "word"),
                (Net((("a", G),), ()), ("close", "a"), "last"), (net, ("flow", "y", P, ("b", "a"), 0), "ring")):
            self.refuses(NotLet, changed, which, change, why=why)
        # The flow itself may turn round: its old path is gone.
        self.assertEqual(changed(net, ("flow", "x", P, ("b", "a"), 0)).flows, (("x", P, ("b", "a"), 0),))

    def test_the_8th_and_the_9th(self):
        seven = Net(tuple((word, G) for word in "abcdefg"), tuple((word, P, ("a", "b"), 0) for word in "pqrstuv"))
        eight = changed(changed(seven, ("server", "h", G)), ("flow", "w", P, ("b", "c"), 1))
        self.assertEqual((len(eight.servers), len(eight.flows)), (8, 8))
        for change in (("server", "aa", G), ("flow", "a", P, ("a",), 0), ("flow", "a", P, ("b", "a"), 0)):
            self.refuses(NotLet, changed, eight, change, why="many")
        self.refuses(NotLet, changed, eight, ("flow", "a", P, ("aa",), 0), why="word")
        self.refuses(NotLet, changed, eight, ("flow", "w", P, ("b", "a"), 0), why="ring")
        self.assertEqual(dict(changed(eight, ("server", "h", line(0, 9, 1))).servers)["h"], line(0, 9, 1))
        self.assertEqual(changed(eight, ("flow", "w", P, ("a",), 5)).flows[-1], ("w", P, ("a",), 5))

    def test_two_changes_in_both_sequences(self):
        lots = Lots(592)
        told = 0
        for _ in range(200):
            net = small_net(lots)
            one, two = some_change(lots, net), some_change(lots, net)
            if one[1] == two[1] or isinstance(plain_changed(net, one), str) or isinstance(plain_changed(net, two), str):
                continue
            first, second = changed(net, one), changed(net, two)
            if isinstance(plain_changed(first, two), str) or isinstance(plain_changed(second, one), str):
                continue
            both = changed(first, two)
            self.assertEqual(both, changed(second, one))
            told += 1
            for stop in stops(both):
                if stop not in spread(first, two):
                    for call in (door_of, left_of, stop_bounds):
                        self.assertEqual(call(both, *stop), call(first, *stop))
        self.assertGreater(told, 20)


class Spreads(Case):
    def test_as_told(self):
        lots = Lots(593)
        told = {True: 0, False: 0}
        for _ in range(300):
            net = small_net(lots)
            change = some_change(lots, net)
            behind = plain_changed(net, change)
            if isinstance(behind, str):
                continue
            found = spread(net, change)
            self.assertEqual(found, plain_spread(net, behind, change))
            hanging = touched(net, change)
            self.assertEqual(hanging, plain_touched(net, behind))
            unlike = unlike_bounds(net, behind)
            self.assertEqual(unlike, plain_unlike(net, behind))
            self.assertTrue(all(type(one) is list for one in (found, hanging, unlike)))
            self.assertTrue(set(hanging) <= set(found))
            there = stops(behind)
            self.assertTrue({row[:2] for row in unlike if row[:2] in there} <= set(hanging))
            for stop in there:
                if stop not in found:
                    self.assertEqual(door_of(behind, *stop), door_of(net, *stop))
                    self.assertEqual(left_of(behind, *stop), left_of(net, *stop))
            told[len(found) < len(there)] += 1
        self.assertGreater(min(told.values()), 30)

    def test_by_hand(self):
        net = Net((("a", late(1, 2, 1)), ("b", late(1, 3, 1)), ("c", G)),
                  (("p", flat(2), ("a", "b"), 1), ("q", flat(1), ("b", "c"), 2), ("r", flat(1), ("c",), 2),
                   ("s", flat(1), ("c",), 1)))
        for change, stops_told in (
                (("server", "a", G), [("p", "a"), ("p", "b"), ("q", "b"), ("q", "c"), ("r", "c")]),
                (("server", "c", G), [("q", "c"), ("r", "c"), ("s", "c")]), (("server", "d", G), []),
                (("gone", "p"), [("q", "b"), ("q", "c"), ("r", "c")]), (("gone", "r"), [("q", "c")]),
                (("flow", "s", flat(1), ("a",), 0), [("p", "a"), ("p", "b"), ("q", "b"), ("q", "c"), ("r", "c"), ("s", "a")]),
                (("flow", "t", flat(1), ("b",), 9), [("t", "b")])):
            self.assertEqual(spread(net, change), stops_told)
        wider = changed(net, ("server", "d", G))
        self.assertEqual(spread(wider, ("close", "d")), [])
        self.assertEqual(touched(wider, ("close", "d")), [])
        # The same curve again: nothing is touched, all at it is in the spread.
        self.assertEqual(touched(net, ("server", "c", G)), [])
        self.assertEqual(unlike_bounds(net, net), [])

    def test_unlike_bounds(self):
        one = Net((("s", late(1, 2, 1)),), (("x", line(2, 0, 1), ("s",), 0), ("y", line(0, 1, 1), ("s",), 1)))
        two = changed(one, ("gone", "x"))
        self.assertEqual(unlike_bounds(one, two), [("x", "", (1,), None), ("x", "s", (1, 2), None),
                                                   ("y", "", (2,), (1,)), ("y", "s", (2, 2), (1, 1))])
        self.assertEqual(unlike_bounds(two, one)[:2], [("x", "", None, (1,)), ("x", "s", None, (1, 2))])
        three = changed(one, ("server", "s", flat(0)))
        self.assertEqual(unlike_bounds(one, three), [("x", "", (1,), (None,)), ("x", "s", (1, 2), (None, 2)),
                                                     ("y", "", (2,), (None,)), ("y", "s", (2, 2), (None, None))])

    def test_too_many(self):
        net = Net((("a", G),), (("x", later(flat(1), 400), ("a",), 0),))
        self.assertRaises(TooMany, unlike_bounds, net, net)
        self.assertEqual(spread(net, ("gone", "x")), [])
        self.assertEqual(changed(net, ("gone", "x")), Net((("a", G),), ()))
        self.assertEqual(sequence(changed(net, ("server", "b", G))), ["a", "b"])

    def test_refuses(self):
        net = Net((("a", G),), ())
        for thing in NO_NETS:
            for call in (changed, spread, touched):
                self.refuses(BadNet, call, thing, None, part=None)
            self.refuses(BadNet, unlike_bounds, thing, net, part=None)
            self.refuses(BadNet, unlike_bounds, net, thing, part=None)
        for thing in NO_CHANGES:
            for call in (changed, spread, touched):
                self.refuses(BadChange, call, net, thing)


if __name__ == "__main__":
    unittest.main()
