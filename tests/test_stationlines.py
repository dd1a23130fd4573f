"""[67]: lines of stations."""

import unittest
from itertools import permutations

from worstwait.bounds import longest_wait
from worstwait.errors import BadStations, BadTraffic
from worstwait.foldings import folding
from worstwait.gates import gate_curve
from worstwait.joined import raised
from worstwait.measures import measured
from worstwait.promises import keeps
from worstwait.stationlines import line_waits, played_line
from tests.plain import Case, Lots

NO_SPEEDS = ([], (), [0], [0, 0], [-1, 2], [1001], [True], [1, False], ["1"], [1.0], None, 1, "12", {1: 1}, [1] * 61)


def plain_line(lines, traffic):
    """Letter by letter: for each station the beats in which the letters leave it."""
    comes = [beat for beat, letters in enumerate(traffic) for _ in range(letters)]
    told = []
    for speeds in lines:
        spent = {}
        ends = []
        for beat in comes:
            beat = max([beat] + ends[-1:])
            while spent.get(beat, 0) == speeds[beat % len(speeds)]:
                beat += 1
            spent[beat] = spent.get(beat, 0) + 1
            ends.append(beat)
        told.append(ends)
        comes = ends
    return told


def some_speeds(lots, longest=4, most=3):
    while True:
        told = [lots.below(most + 1) for _ in range(1 + lots.below(longest))]
        if any(told):
            return told


class Lines(Case):
    def test_letter_by_letter(self):
        lots = Lots(261)
        for _ in range(150):
            lines = [some_speeds(lots) for _ in range(1 + lots.below(4))]
            traffic = [lots.below(4) for _ in range(1 + lots.below(9))]
            ends = plain_line(lines, traffic)
            many = max([len(traffic)] + [end + 1 for row in ends for end in row])
            wanted = tuple(tuple(row.count(beat) for beat in range(many)) for row in ends)
            self.assertEqual(played_line(lines, traffic), wanted)
            self.assertTrue(all(type(row) is tuple for row in played_line(lines, tuple(traffic))))
            begins = [beat for beat, letters in enumerate(traffic) for _ in range(letters)]
            waits = tuple(end - begin for begin, end in zip(begins, ends[-1]))
            self.assertEqual(line_waits(tuple(lines), traffic), waits)

    def test_by_hand(self):
        self.assertEqual(played_line([[1]], [2, 0, 0]), ((1, 1, 0),))
        self.assertEqual(played_line([[2], [0, 1]], [3]), ((2, 1, 0, 0, 0, 0), (0, 1, 0, 1, 0, 1)))
        self.assertEqual(line_waits([[2], [0, 1]], [3]), (1, 3, 5))
        self.assertEqual(played_line([[5], [5], [5], [5]], [4, 0, 1]), ((4, 0, 1),) * 4)
        self.assertEqual(played_line([[1]], [0]), ((0,),))
        self.assertEqual(line_waits([[1]], [0] * 60), ())

    def test_edges(self):
        self.assertEqual(len(played_line([[0] * 59 + [1000]] * 4, [12000])[3]), 12 * 60)
        self.assertEqual(played_line([[1000]], [200] * 60), ((200,) * 60,))
        self.assertEqual(line_waits([[3]], [12000])[-1], 3999)
        self.assertEqual(len(played_line([[3]], [12000])[0]), 4000)
        for call in (played_line, line_waits):
            self.too_many(4000, call, [[3]], [1, 11999])
            self.too_many(4000, call, [[0] * 59 + [1]], [67])
        self.assertEqual(len(played_line([[0] * 59 + [1]], [66])[0]), 66 * 60)

    def test_no_letter_waits_longer_than_promised(self):
        lots = Lots(262)
        tight = 0
        for _ in range(150):
            lines = [some_speeds(lots) for _ in range(1 + lots.below(4))]
            traffic = [lots.below(3) for _ in range(1 + lots.below(6))]
            # What is measured is a promise that the traffic keeps; so is all above it.
            promise = measured(traffic)
            if lots.below(2):
                promise = raised(promise, lots.below(3))
            self.assertTrue(keeps(traffic, promise))
            server = gate_curve(tuple(lines[0]))
            for speeds in lines[1:]:
                server = folding(server, gate_curve(tuple(speeds)))
            longest = longest_wait(promise, server)[0]
            turned = [speeds[k:] + speeds[:k] for speeds in lines for k in [lots.below(len(speeds))]]
            found = max(line_waits(turned, traffic), default=0)
            self.assertLessEqual(found, longest)
            tight += found == longest
        self.assertGreater(tight, 10)

    def test_steady_stations_in_another_sequence(self):
        lots = Lots(263)
        for _ in range(30):
            lines = [[1 + lots.below(3)] for _ in range(1 + lots.below(4))]
            traffic = [lots.below(5) for _ in range(1 + lots.below(6))]
            told = {played_line(list(one), traffic)[-1] for one in permutations(lines)}
            self.assertEqual(len(told), 1)


class Wrong(Case):
    def test_refuses(self):
        for call in (played_line, line_waits):
            for lines in (None, 3, [], (), [[1]] * 5, "1", {0: [1]}, [1], [[[1]]]):
                self.refuses(BadStations, call, lines, None)
            for speeds in NO_SPEEDS:
                self.refuses(BadStations, call, [[1], speeds], None)
            for traffic in (None, 3, [], (), [0] * 61, [-1], [True], [1, False], [1.0], ["1"], "1", {0: 1},
                            [12001], [6000, 6001], [None], [[1]]):
                self.refuses(BadTraffic, call, [[1]], traffic, part="traffic")


if __name__ == "__main__":
    unittest.main()
