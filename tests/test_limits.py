"""[94]: limits of whole waits."""

import unittest
from itertools import combinations

from worstwait.curves import Curve, flat, late, line
from worstwait.errors import BadFlow, BadLimits, BadNet, BadNumber, BadServer, TooMany
from worstwait.joined import later, raised, times
from worstwait.limits import broken_limits, burst_room, fewest_gone, least_speed
from worstwait.netbounds import net_bounds, server_heap, stop_bounds, whole_wait
from worstwait.nets import Net, stops
from tests.plain import NO_NUMBERS, Case, Lots
from tests.test_netbounds import NO_WORDS, Plain, small_net
from tests.test_nets import NO_NETS

NO_LIMITS = (None, 0, [], (), "x", [("x", 1)], {"zz": 1}, {"x": -1}, {"x": 10 ** 6 + 1}, {"x": True}, {"x": None},
             {"x": 1.0}, {"x": "1"}, {1: 1}, {None: 1}, {("x",): 1}, {"x": 1, "s": 1}, {True: 3})


def some_limits(lots, net):
    return {flow[0]: lots.of([0, 1, 2, 3, 5, 9, 10 ** 6]) for flow in net.flows[::-1] if lots.below(3)}


def plain_broken(net, limits):
    told = []
    for word in sorted(limits):
        wait = Plain(net).whole(word)
        if wait is None or wait > limits[word]:
            told.append(word)
    return told


def with_promise(net, word, number):
    return Net(net.servers, tuple((one, raised(promise, number) if one == word else promise, path, rank)
                                  for one, promise, path, rank in net.flows))


def with_speed(net, word, number):
    return Net(tuple((one, times(curve, number) if one == word else curve) for one, curve in net.servers), net.flows)


def without_flows(net, words):
    return Net(net.servers, tuple(flow for flow in net.flows if flow[0] not in words))


class Limits(Case):
    def test_broken(self):
        lots = Lots(671)
        seen = {True: 0, False: 0}
        for _ in range(150):
            net = small_net(lots)
            limits = some_limits(lots, net)
            found = broken_limits(net, limits)
            self.assertIs(type(found), list)
            self.assertEqual(found, plain_broken(net, limits))
            seen[found == []] += 1
        self.assertGreater(min(seen.values()), 30)

    def test_burst_room(self):
        lots = Lots(672)
        seen = {}
        for _ in range(120):
            net = small_net(lots)
            if not net.flows:
                continue
            limits, word, most = some_limits(lots, net), lots.of(net.flows)[0], lots.below(7)
            kept = [n for n in range(most + 1) if not plain_broken(with_promise(net, word, n), limits)]
            self.assertEqual(kept, list(range(len(kept))))
            found = burst_room(net, limits, word, most)
            self.assertEqual(found, len(kept) - 1 if kept else None)
            kind = "none" if found is None else "all" if found == most else "some"
            seen[kind] = seen.get(kind, 0) + 1
        self.assertEqual(len(seen), 3)

    def test_least_speed(self):
        lots = Lots(673)
        seen = {}
        for _ in range(120):
            net = small_net(lots)
            limits, word, most = some_limits(lots, net), lots.of(net.servers)[0], lots.below(6)
            kept = [n for n in range(most + 1) if not plain_broken(with_speed(net, word, n), limits)]
            self.assertEqual(kept, list(range(most + 1 - len(kept), most + 1)))
            found = least_speed(net, limits, word, most)
            self.assertEqual(found, kept[0] if kept else None)
            kind = "none" if found is None else "0" if found == 0 else "some"
            seen[kind] = seen.get(kind, 0) + 1
        self.assertEqual(len(seen), 3)

    def test_fewest_gone(self):
        lots = Lots(674)
        sizes = {}
        for _ in range(120):
            net = small_net(lots)
            limits = some_limits(lots, net)
            words = [flow[0] for flow in net.flows]

            def kept_without(gone):
                left = {word: most for word, most in limits.items() if word not in gone}
                return not plain_broken(without_flows(net, gone), left)
            ways = [list(gone) for many in range(len(words) + 1) for gone in combinations(words, many)
                    if kept_without(gone)]
            found = fewest_gone(net, limits)
            self.assertEqual(found, ways[0])
            self.assertIs(type(found), list)
            sizes[len(found)] = sizes.get(len(found), 0) + 1
            # With more gone than that all is kept, too.
            for extra in words:
                self.assertTrue(kept_without(set(found) | {extra}))
        self.assertGreater(len(sizes), 2)

    def test_more_coming_is_never_better(self):
        lots = Lots(675)
        for _ in range(80):
            net = small_net(lots)
            if not net.flows:
                continue
            word, server = lots.of(net.flows)[0], lots.of(net.servers)[0]
            for better, worse in ((net, with_promise(net, word, 1 + lots.below(3))),
                                  (with_speed(net, server, 2), net), (without_flows(net, (word,)), net)):
                def ahead(one, two):
                    return two is None or one is not None and one <= two
                for flow, at in stops(better):
                    pairs = zip(stop_bounds(better, flow, at), stop_bounds(worse, flow, at))
                    self.assertTrue(all(ahead(one, two) for one, two in pairs))
                for flow in better.flows:
                    self.assertTrue(ahead(whole_wait(better, flow[0]), whole_wait(worse, flow[0])))
                for at, _ in net.servers:
                    self.assertTrue(ahead(server_heap(better, at), server_heap(worse, at)))

    def test_by_hand(self):
        net = Net((("s", late(1, 2, 1)),), (("x", line(2, 0, 1), ("s",), 0), ("y", line(0, 1, 1), ("s",), 1)))
        self.assertEqual(broken_limits(net, {"y": 1, "x": 1}), ["y"])
        self.assertEqual(broken_limits(net, {"y": 1, "x": 0}), ["x", "y"])
        self.assertEqual(broken_limits(net, {}), [])
        self.assertEqual(burst_room(net, {"x": 2}, "x", 200), 2)
        self.assertEqual(burst_room(net, {"x": 2}, "y", 200), 200)
        self.assertEqual(burst_room(net, {"y": 2}, "x", 200), 1)
        self.assertIsNone(burst_room(net, {"y": 1}, "x", 200))
        self.assertEqual(burst_room(net, {"x": 1}, "y", 0), 0)
        self.assertEqual(least_speed(net, {"x": 1}, "s", 200), 1)
        self.assertEqual(least_speed(net, {"y": 1}, "s", 200), 2)
        self.assertIsNone(least_speed(net, {"y": 0}, "s", 200))
        self.assertIsNone(least_speed(net, {"y": 1}, "s", 1))
        self.assertEqual(least_speed(net, {}, "s", 0), 0)
        self.assertEqual(fewest_gone(net, {"y": 1}), ["x"])
        self.assertEqual(fewest_gone(net, {"y": 0}), ["y"])
        self.assertEqual(fewest_gone(net, {"y": 2, "x": 0}), ["x"])
        self.assertEqual(fewest_gone(net, {"y": 10 ** 6, "x": 10 ** 6}), [])
        self.assertEqual(fewest_gone(Net((("s", flat(0)),), ()), {}), [])
        # Without end is above each limit.
        self.assertEqual(broken_limits(Net((("s", flat(0)),), net.flows), {"x": 10 ** 6}), ["x"])

    def test_too_many(self):
        # Far behind, one flow's promise has too many values for what is left to be told.
        net = Net((("a", line(0, 3, 1)),), (("x", Curve([0] + [1] * 60, 60, 60), ("a",), 0),
                                            ("y", later(flat(1), 400), ("a",), 1)))
        self.assertRaises(TooMany, net_bounds, net)
        for call, word in ((burst_room, "x"), (least_speed, "a")):
            self.assertRaises(TooMany, call, net, {"y": 10 ** 6}, word, 3)
        self.assertRaises(TooMany, fewest_gone, net, {"y": 10 ** 6})

    def test_what_is_handed_in_stays(self):
        net = small_net(Lots(676))
        limits = {flow[0]: 3 for flow in net.flows}
        before = dict(limits)
        broken_limits(net, limits)
        fewest_gone(net, limits)
        self.assertEqual(limits, before)

    def test_refuses(self):
        net = Net((("s", late(1, 2, 1)),), (("x", line(2, 0, 1), ("s",), 0),))
        for thing in NO_NETS:
            self.refuses(BadNet, broken_limits, thing, None, part=None)
            self.refuses(BadNet, fewest_gone, thing, None, part=None)
            self.refuses(BadNet, burst_room, thing, None, None, None, part=None)
            self.refuses(BadNet, least_speed, thing, None, None, None, part=None)
        for thing in NO_LIMITS:
            self.refuses(BadLimits, broken_limits, net, thing)
            self.refuses(BadLimits, fewest_gone, net, thing)
            self.refuses(BadLimits, burst_room, net, thing, None, None)
            self.refuses(BadLimits, least_speed, net, thing, None, None)
        for wrong in NO_WORDS[:5] + ("s", [], ("x",)):
            self.refuses(BadFlow, burst_room, net, {"x": 1}, wrong, None)
        for wrong in NO_WORDS + ("x",):
            self.refuses(BadServer, least_speed, net, {"x": 1}, wrong, None)
        for wrong in NO_NUMBERS + (-1, 201):
            self.refuses(BadNumber, burst_room, net, {"x": 1}, "x", wrong, part="most")
            self.refuses(BadNumber, least_speed, net, {"x": 1}, "s", wrong, part="most")


if __name__ == "__main__":
    unittest.main()
