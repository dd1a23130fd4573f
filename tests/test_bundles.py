"""[47], [48], [49]: how bundles are judged."""

import unittest

from worstwait.bundles import is_by_rank, is_by_shares, is_by_turns, is_first_come
from worstwait.errors import BadBundle, BadNumber
from worstwait.plays import played
from worstwait.stations import Station
from tests.plain import Case, Lots
from tests.test_promises import plain_row
from tests.test_runs import NO_BUNDLES, some_bundle


def plain_by_rank(bundle):
    for place, (came, gone) in enumerate(bundle):
        for t in range(1, len(came)):
            ahead = [run for run in bundle[:place] if run[0][t] - run[1][t] > 0]
            if gone[t] > gone[t - 1] and ahead:
                return False
    return True


def plain_first_come(bundle):
    def fits(t, u):
        return all(came[u] <= gone[t] <= came[min(u + 1, t)] for came, gone in bundle)
    return all(any(fits(t, u) for u in range(t + 1)) for t in range(len(bundle[0][0])))


def plain_stretches(bundle, flow):
    """All pairs (x, y) of a flow, as [49] tells them."""
    came, gone = bundle[flow]
    for t in range(len(came)):
        for s in range(t):
            if all(came[b] > gone[b] for b in range(s + 1, t + 1)):
                yield sum(run[1][t] - run[1][s] for run in bundle), gone[t] - gone[s]


def plain_by_turns(bundle, quanta):
    whole = sum(quanta)
    return all(y >= (x // whole) * q + max(0, x % whole - (whole - q))
               for flow, q in enumerate(quanta) for x, y in plain_stretches(bundle, flow))


def plain_by_shares(bundle, shares):
    return all(x <= y + sum(v * (y + 1) // w + 1 for other, v in enumerate(shares) if other != flow)
               for flow, w in enumerate(shares) for x, y in plain_stretches(bundle, flow))


def played_bundle(lots, rule, flows, beats=12):
    """The bundle of a station's play."""
    while True:
        speeds = [lots.below(4) for _ in range(1 + lots.below(3))]
        if any(speeds):
            break
    rows = [[lots.of([0, 0, lots.below(5)]) for _ in range(beats)] for _ in range(flows)]
    run = played(Station(speeds, rule), rows)
    told = []
    for flow, row in enumerate(rows):
        row = row + [0] * (len(run) - beats)
        told.append((plain_row(row), plain_row([letters[flow] for letters in run])))
    return tuple(told), speeds


class Judged(Case):
    def test_by_rank(self):
        lots = Lots(351)
        seen = {True: 0, False: 0}
        for _ in range(300):
            bundle = some_bundle(lots, 3, 5)
            wanted = plain_by_rank(bundle)
            self.assertIs(is_by_rank(bundle), wanted)
            seen[wanted] += 1
        self.assertGreater(min(seen.values()), 10)
        for _ in range(40):
            bundle, _ = played_bundle(lots, ("ranks", 3), 3)
            self.assertTrue(is_by_rank(bundle))

    def test_first_come(self):
        lots = Lots(352)
        seen = {True: 0, False: 0}
        for _ in range(300):
            bundle = some_bundle(lots, 3, 5)
            wanted = plain_first_come(bundle)
            self.assertIs(is_first_come(bundle), wanted)
            seen[wanted] += 1
        self.assertGreater(min(seen.values()), 10)
        for _ in range(40):
            bundle, _ = played_bundle(lots, ("come", 3), 3)
            self.assertTrue(is_first_come(bundle))

    def test_by_turns(self):
        lots = Lots(353)
        seen = {True: 0, False: 0}
        for _ in range(400):
            bundle = some_bundle(lots, 3, 5)
            quanta = [1 + lots.below(5) for _ in bundle]
            wanted = plain_by_turns(bundle, quanta)
            self.assertIs(is_by_turns(bundle, quanta), wanted)
            self.assertIs(is_by_turns(bundle, tuple(quanta)), wanted)
            seen[wanted] += 1
        self.assertGreater(min(seen.values()), 10)
        for _ in range(40):
            quanta = tuple(1 + lots.below(4) for _ in range(3))
            bundle, _ = played_bundle(lots, ("turns", quanta), 3)
            self.assertTrue(is_by_turns(bundle, quanta))

    def test_by_shares(self):
        lots = Lots(354)
        seen = {True: 0, False: 0}
        for _ in range(400):
            bundle = some_bundle(lots, 3, 6)
            shares = [1 + lots.below(5) for _ in bundle]
            wanted = plain_by_shares(bundle, shares)
            self.assertIs(is_by_shares(bundle, shares), wanted)
            self.assertIs(is_by_shares(bundle, tuple(shares)), wanted)
            seen[wanted] += 1
        self.assertGreater(min(seen.values()), 10)
        for _ in range(40):
            shares = tuple(1 + lots.below(4) for _ in range(3))
            bundle, _ = played_bundle(lots, ("shares", shares), 3)
            self.assertTrue(is_by_shares(bundle, shares))

    def test_edges(self):
        one, eight = (([0], [0]),), (([0, 5], [0, 2]),) * 8
        for bundle in (one, eight, one * 8):
            many = len(bundle)
            for part in (1, 60):
                self.assertIs(is_by_turns(bundle, [part] * many), True)
                self.assertIs(is_by_shares(bundle, (part,) * many), True)
            self.assertIs(is_by_rank(bundle), many == 1 or bundle is not eight)
            self.assertIs(is_first_come(bundle), True)
        long = tuple(([0] + [9] * 1000, [0] + [min(9, t) for t in range(1000)]) for _ in range(2))
        self.assertFalse(is_by_rank(long))
        self.assertTrue(is_first_come(long))
        self.assertTrue(is_by_turns(long, [1, 1]))
        self.assertFalse(is_by_turns(long, [60, 1]))
        self.assertTrue(is_by_shares(long, [1, 1]))
        # The other flow has 7 letters while one waits: 2 * 1 // 1 + 1 are let.
        bundle = (([0, 5, 5], [0, 0, 0]), ([0, 7, 7], [0, 0, 3]))
        self.assertTrue(is_by_shares(bundle, [1, 2]))
        self.assertFalse(is_by_shares(bundle, [1, 1]))
        self.assertTrue(is_by_turns(bundle, [1, 3]))
        self.assertFalse(is_by_turns(bundle, [1, 2]))


class Wrong(Case):
    def test_refuses(self):
        for thing in NO_BUNDLES:
            for call, more in ((is_by_rank, ()), (is_first_come, ()), (is_by_turns, (None,)), (is_by_shares, (None,))):
                self.refuses(BadBundle, call, thing, *more)
        bundle = (([0, 1], [0, 1]),) * 2
        for parts in (None, 3, [], [1], [1, 1, 1], [0, 1], [1, 61], [1, True], [1, 1.0], [1, "1"], [1, None], "11",
                      {1: 1, 2: 2}):
            self.refuses(BadNumber, is_by_turns, bundle, parts, part="quanta")
            self.refuses(BadNumber, is_by_shares, bundle, parts, part="shares")


if __name__ == "__main__":
    unittest.main()
