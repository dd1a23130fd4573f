"""[92]: plays of nets, letter by letter against the plain words."""

import unittest

from worstwait.curves import Curve, flat, late, line
from worstwait.errors import BadNet, BadPlay
from worstwait.joined import later
from worstwait.netbounds import net_bounds, server_heap
from worstwait.netplays import is_lawful, met, net_played
from worstwait.nets import Net, sequence
from tests.plain import Case, Lots, numbers, some_curve
from tests.test_netbounds import small_net
from tests.test_nets import NO_NETS, some_net


def plain_play(net, comes, gifts):
    """All letters: dicts with their flow and, for each server, when they came and left."""
    beats = len(next(iter(gifts.values())))
    paths = {word: path for word, _, path, _ in net.flows}
    ranks = {word: rank for word, _, _, rank in net.flows}
    letters = []
    for beat in range(beats):
        for word in sorted(comes):
            for _ in range(comes[word][beat]):
                letters.append({"flow": word, "came": {paths[word][0]: beat}, "left": {}})
        for server in sequence(net):
            there = [one for one in letters if server in one["came"] and server not in one["left"]]
            # Letters of one flow stand in the sequence in which they came.
            there.sort(key=lambda one: (ranks[one["flow"]], one["flow"]))
            for one in there[:gifts[server][beat]]:
                one["left"][server] = beat
                path = paths[one["flow"]]
                if server != path[-1]:
                    one["came"][path[path.index(server) + 1]] = beat
    return letters


def plain_lawful(net, comes, gifts, letters):
    beats = len(next(iter(gifts.values())))
    for word, promise, _, _ in net.flows:
        row = [sum(comes[word][:t]) for t in range(beats + 1)]
        most = numbers(promise, beats + 1)
        if any(row[t] - row[s] > most[t - s] for t in range(beats + 1) for s in range(t)):
            return False
    for server, curve in net.servers:
        least = numbers(curve, beats + 1)
        full = [any(one["came"].get(server, 99) <= beat < one["left"].get(server, 99) for one in letters)
                for beat in range(beats)]
        for t in range(beats + 1):
            for s in range(t):
                if all(full[s:t]) and sum(gifts[server][s:t]) < least[t - s]:
                    return False
    return True


def some_play(lots, net, beats):
    comes = {word: [lots.of([0, 0, 1, lots.below(5)]) for _ in range(beats)] for word, _, _, _ in net.flows}
    gifts = {word: [lots.below(lots.of([4, 7])) for _ in range(beats)] for word, _ in net.servers}
    return comes, gifts


def lawful_play(lots, net, beats):
    """A play that is lawful unless what comes late breaks a promise: servers give no more than they have to."""
    comes, gifts = {}, {word: [0] * beats for word, _ in net.servers}
    for word, promise, _, _ in net.flows:
        row, most = [0], numbers(promise, beats + 1)
        for t in range(1, beats + 1):
            room = min([most[t - s] + row[s] for s in range(t)] + [row[-1] + 9]) - row[-1]
            row.append(row[-1] + lots.of([room, room, lots.below(room + 1)]))
        comes[word] = [two - one for one, two in zip(row, row[1:])]
    for beat in range(beats):
        for word in sequence(net):
            while gifts[word][beat] < 100 and not lawful_up_to(net, comes, gifts, word, beat):
                gifts[word][beat] += 1
    return comes, gifts


def lawful_up_to(net, comes, gifts, server, beat):
    """Whether a server gives what it has to in all stretches up to a beat."""
    letters = plain_play(net, comes, gifts)
    least = numbers(dict(net.servers)[server], beat + 2)
    for s in range(beat, -1, -1):
        if not any(one["came"].get(server, 99) <= s < one["left"].get(server, 99) for one in letters):
            return True
        if sum(gifts[server][s:beat + 1]) < least[beat + 1 - s]:
            return False
    return True


class Bounds(Case):
    def test_what_is_met_is_never_above_the_bounds(self):
        lots = Lots(154)
        tight = 0
        for _ in range(60):
            net, beats = small_net(lots, 3), 1 + lots.below(6)
            comes, gifts = lawful_play(lots, net, beats)
            if not is_lawful(net, comes, gifts):
                continue
            letters, bounds = plain_play(net, comes, gifts), net_bounds(net)
            for word, (whole, rows) in met(net, comes, gifts).items():
                self.assertTrue(bounds[word][0] is None or whole <= bounds[word][0])
                for (server, wait, heap), (_, most_wait, most_heap) in zip(rows, bounds[word][1]):
                    self.assertTrue(most_wait is None or wait <= most_wait)
                    self.assertTrue(most_heap is None or heap <= most_heap)
                    tight += most_heap is not None and heap == most_heap > 0
            for server, _ in net.servers:
                most = server_heap(net, server)
                for beat in range(beats):
                    heap = sum(one["came"].get(server, 99) <= beat < one["left"].get(server, 99) for one in letters)
                    self.assertTrue(most is None or heap <= most)
        self.assertGreater(tight, 10)


class Plays(Case):
    def test_letter_by_letter(self):
        lots = Lots(151)
        lawful = {True: 0, False: 0}
        for _ in range(250):
            net, beats = some_net(lots), 1 + lots.below(8)
            comes, gifts = some_play(lots, net, beats)
            if lots.below(2):
                gifts = {word: [2 + k % 2 for k in range(beats)] for word in gifts}
                comes = {word: [k == 0 for k in range(beats)] for word in comes}
                comes = {word: [int(one) for one in row] for word, row in comes.items()}
            letters = plain_play(net, comes, gifts)
            played, reached = net_played(net, comes, gifts), met(net, comes, gifts)
            words = sorted(flow[0] for flow in net.flows)
            self.assertEqual(list(played), words)
            self.assertEqual(list(reached), words)
            for word, _, path, _ in net.flows:
                mine = [one for one in letters if one["flow"] == word]
                left = tuple(tuple(sum(one["left"].get(server) == beat for one in mine)
                                   for beat in range(beats)) for server in path)
                self.assertEqual(played[word], left)
                rows = []
                for server in path:
                    here = [one for one in mine if server in one["came"]]
                    waits = [one["left"].get(server, beats) - one["came"][server] for one in here]
                    heaps = [sum(one["came"][server] <= beat < one["left"].get(server, beats) for one in here)
                             for beat in range(beats)]
                    rows.append((server, max(waits + [0]), max(heaps)))
                whole = [one["left"].get(path[-1], beats) - one["came"][path[0]] for one in mine]
                self.assertEqual(reached[word], (max(whole + [0]), tuple(rows)))
            told = plain_lawful(net, comes, gifts, letters)
            self.assertIs(is_lawful(net, comes, gifts), told)
            lawful[told] += 1
        self.assertGreater(min(lawful.values()), 25)

    def test_promises_alone(self):
        lots = Lots(152)
        lawful = {True: 0, False: 0}
        for _ in range(300):
            promise = some_curve(lots, 5, 3)
            net = Net((("a", flat(0)),), (("x", promise, ("a",), 0), ("y", flat(None), ("a",), 0)))
            row = [lots.of([0, 0, 1, 2, 4]) for _ in range(1 + lots.below(6))]
            comes, gifts = {"x": row, "y": [0] * len(row)}, {"a": [0] * len(row)}
            told = plain_lawful(net, comes, gifts, plain_play(net, comes, gifts))
            self.assertIs(is_lawful(net, comes, gifts), told)
            lawful[told] += 1
        self.assertGreater(min(lawful.values()), 50)

    def test_by_hand(self):
        server = (("hub", late(1, 2, 1)),)
        net = Net(server, (("x", line(2, 0, 1), ("hub",), 0), ("y", line(0, 1, 1), ("hub",), 1)))
        comes, gifts = {"x": [2, 0, 0], "y": [1, 1, 0]}, {"hub": [0, 2, 2]}
        self.assertEqual(net_played(net, comes, gifts), {"x": ((0, 2, 0),), "y": ((0, 0, 2),)})
        self.assertEqual(met(net, comes, gifts), {"x": (1, (("hub", 1, 2),)), "y": (2, (("hub", 2, 2),))})
        self.assertTrue(is_lawful(net, comes, gifts))
        self.assertFalse(is_lawful(net, comes, {"hub": [0, 1, 2]}))
        self.assertFalse(is_lawful(net, {"x": [3, 0, 0], "y": [0, 0, 0]}, {"hub": [9, 9, 9]}))
        self.assertEqual(met(net, {"x": [0], "y": [0]}, {"hub": [0]}),
                         {"x": (0, (("hub", 0, 0),)), "y": (0, (("hub", 0, 0),))})

    def test_what_stays(self):
        net = Net((("a", flat(0)), ("b", flat(0))), (("x", flat(None), ("a", "b"), 0),))
        told = met(net, {"x": [0, 5, 0]}, {"a": [9, 9, 9], "b": [9, 4, 0]})
        self.assertEqual(told, {"x": (2, (("a", 0, 0), ("b", 2, 1)))})
        self.assertEqual(met(net, {"x": [5, 0, 0]}, {"a": [0] * 3, "b": [0] * 3}),
                         {"x": (3, (("a", 3, 5), ("b", 0, 0)))})
        self.assertTrue(is_lawful(net, {"x": [5, 0, 0]}, {"a": [0] * 3, "b": [0] * 3}))

    def test_none_is_above_all(self):
        net = Net((("a", Curve([0, None], 1, 0)),), (("x", Curve([None], 1, 0), ("a",), 0),))
        self.assertTrue(is_lawful(net, {"x": [5, 6]}, {"a": [5, 6]}))
        self.assertFalse(is_lawful(net, {"x": [5, 6]}, {"a": [5, 5]}))
        net = Net((("a", later(Curve([0, None], 1, 0), 1)),), (("x", Curve([None], 1, 0), ("a",), 0),))
        self.assertTrue(is_lawful(net, {"x": [5, 0, 5]}, {"a": [0, 5, 0]}))
        self.assertFalse(is_lawful(net, {"x": [5, 6, 0]}, {"a": [0, 10, 9]}))

    def test_great_numbers_and_many_beats(self):
        net = some_net(Lots(3), 8, 8)
        comes = {flow[0]: [10 ** 6] * 60 for flow in net.flows}
        gifts = {server[0]: [10 ** 6] * 60 for server in net.servers}
        played = net_played(net, comes, gifts)
        self.assertEqual(sorted(played), sorted(comes))
        self.assertEqual(len(met(net, comes, gifts)), 8)
        bare = Net(net.servers, ())
        self.assertEqual(net_played(bare, {}, gifts), {})
        self.assertEqual(met(bare, {}, gifts), {})
        self.assertTrue(is_lawful(bare, {}, gifts))

    def test_refuses(self):
        net = Net((("a", flat(0)), ("b", flat(0))), (("x", flat(1), ("a",), 0), ("y", flat(1), ("b",), 0)))
        gifts = {"a": [1, 2], "b": [0, 10 ** 6]}
        comes = {"y": (0, 0), "x": [1, 10 ** 6]}
        for call in (net_played, is_lawful, met):
            call(net, comes, gifts)
            for thing in NO_NETS:
                self.refuses(BadNet, call, thing, None, None, part=None)
            for wrong in (None, [], {}, {"x": [1, 2]}, {"x": [1, 2], "y": [1]}, {"x": [1, 2], "z": [1, 2]},
                          {"x": [1, 2], "y": [1, 2], "z": [1, 2]}, {"x": [1, 2], "y": [1, True]},
                          {"x": [1, 2], "y": [1, -1]}, {"x": [1, 2], "y": [1, 10 ** 6 + 1]},
                          {"x": [], "y": []}, {"x": [0] * 61, "y": [0] * 61}, {"x": [1, 2], "y": None},
                          {"x": [1, 2], "y": "12"}, {"x": [1, 2], "y": [1, 2.0]}, (("x", [1]), ("y", [1]))):
                self.refuses(BadPlay, call, net, wrong, None, part="comes")
            for wrong in (None, [], {}, {"a": [1, 2]}, {"a": [1, 2], "b": [1]}, {"a": [1], "b": [1]},
                          {"a": [1, 2, 3], "b": [1, 2, 3]}, {"a": [1, 2], "c": [1, 2]},
                          {"a": [1, 2], "b": [1, 2], "c": [1, 2]}, {"a": [1, 2], "b": [1, False]},
                          {"a": [1, 2], "b": [1, 10 ** 6 + 1]}, {"a": [1, 2], "b": [1, -1]}):
                self.refuses(BadPlay, call, net, comes, wrong, part="gifts")
            bare = Net((("a", flat(0)),), ())
            self.refuses(BadPlay, call, bare, {"x": [1]}, {"a": [1]}, part="comes")
            self.refuses(BadPlay, call, bare, {}, {"a": []}, part="gifts")
            self.refuses(BadPlay, call, bare, {}, {"a": [0] * 61}, part="gifts")
            call(bare, {}, {"a": [0] * 60})

    def test_what_is_handed_in_stays(self):
        net = Net((("a", flat(0)), ("b", flat(0))), (("x", flat(1), ("a", "b"), 0),))
        comes, gifts = {"x": [3, 1]}, {"a": [1, 1], "b": [0, 0]}
        net_played(net, comes, gifts)
        self.assertEqual((comes, gifts), ({"x": [3, 1]}, {"a": [1, 1], "b": [0, 0]}))


if __name__ == "__main__":
    unittest.main()
