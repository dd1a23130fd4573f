"""[61]: plays of stations, letter by letter against the plain words."""

import unittest
from fractions import Fraction

from worstwait.errors import BadRows, BadStation
from worstwait.plays import first_unlike, left_heaps, letter_waits, played
from worstwait.stations import Station
from tests.plain import Case, Lots
from tests.test_stations import NO_STATIONS


def least_common(shares):
    return next(many for many in range(1, 10 ** 9) if all(many % share == 0 for share in shares))


def next_of(rule, there, state):
    """The letter that leaves next, of those that are there: (flow, beat, mark, count)."""
    word, told = rule
    if word == "ranks":
        return min(there, key=lambda letter: (letter[0], letter[3]))
    if word == "come":
        return min(there, key=lambda letter: (letter[1], letter[0], letter[3]))
    if word == "shares":
        return min(there, key=lambda letter: (letter[2], letter[0], letter[3]))
    while True:
        mine = [letter for letter in there if letter[0] == state["holds"]]
        if mine and state["to go"] > 0:
            state["to go"] -= 1
            return mine[0]
        state["holds"] = (state["holds"] + 1) % len(told)
        state["to go"] = told[state["holds"]]


def plain_play(station, rows):
    """For each beat the letters that leave, as pairs of flow and beat of coming."""
    word, told = station.rule
    state = {"holds": 0, "to go": told[0] if word == "turns" else 0, "mark": 0}
    next_mark = [0] * station.flows
    whole = least_common(told) if word == "shares" else 0
    there, run, beat, count = [], [], 0, 0
    while beat < len(rows[0]) or there:
        for flow in range(station.flows):
            for _ in range(rows[flow][beat] if beat < len(rows[flow]) else 0):
                mark = max(state["mark"], next_mark[flow])
                there.append((flow, beat, mark, count))
                count += 1
                if word == "shares":
                    next_mark[flow] = mark + Fraction(whole, told[flow])
        gone = []
        for _ in range(station.speeds[beat % len(station.speeds)]):
            if there:
                letter = next_of(station.rule, there, state)
                there.remove(letter)
                gone.append(letter[:2])
                state["mark"] = letter[2] if there else max(next_mark)
        run.append(gone)
        beat += 1
    return run


def some_rule(lots, flows):
    word = lots.of(["ranks", "come", "turns", "shares"])
    if word in ("ranks", "come"):
        return word, flows
    return word, tuple(1 + lots.below(lots.of([4, 4, 60])) for _ in range(flows))


def some_rows(lots, flows, beats=7, most=4):
    many = 1 + lots.below(beats)
    return [[lots.of([0, 0, lots.below(most + 1)]) for _ in range(many)] for _ in range(flows)]


def some_station(lots, flows=None, rule=None):
    flows = 1 + lots.below(4) if flows is None else flows
    speeds = [lots.below(4) for _ in range(1 + lots.below(4))]
    return Station(speeds if any(speeds) else [1], rule or some_rule(lots, flows))


class Plays(Case):
    def check(self, station, rows):
        run = plain_play(station, rows)
        flows = range(station.flows)
        told = tuple(tuple(len([1 for one, _ in gone if one == flow]) for flow in flows) for gone in run)
        self.assertEqual(played(station, rows), told)
        waits = tuple(tuple(beat - came for beat, gone in enumerate(run) for one, came in gone if one == flow)
                      for flow in flows)
        self.assertEqual(letter_waits(station, rows), waits)
        heaps = tuple(tuple(sum(rows[flow][:beat + 1]) - sum(row[flow] for row in told[:beat + 1])
                            for flow in flows) for beat in range(len(told)))
        self.assertEqual(left_heaps(station, rows), heaps)
        self.assertIsNone(first_unlike(station, rows, told))
        return told

    def test_letter_by_letter(self):
        lots = Lots(101)
        for _ in range(400):
            station = some_station(lots)
            self.check(station, some_rows(lots, station.flows))

    def test_long_rows(self):
        lots = Lots(102)
        for word, told in (("turns", (3, 1, 2)), ("shares", (3, 1, 2)), ("turns", (60, 59, 1)),
                           ("shares", (60, 59, 1)), ("come", 3), ("ranks", 3)):
            rows = [[lots.of([0, 3, 9]) for _ in range(60)] for _ in range(3)]
            self.check(Station([9, 0, 12, 7], (word, told)), rows)

    def test_by_hand(self):
        rows = [[2, 0, 1], [2, 0, 0]]
        self.assertEqual(played(Station([1], ("ranks", 2)), rows), ((1, 0), (1, 0), (1, 0), (0, 1), (0, 1)))
        self.assertEqual(played(Station([1], ("come", 2)), rows), ((1, 0), (1, 0), (0, 1), (0, 1), (1, 0)))
        self.assertEqual(played(Station([1], ("turns", (1, 1))), rows),
                         ((1, 0), (0, 1), (1, 0), (0, 1), (1, 0)))
        self.assertEqual(played(Station([1], ("shares", (1, 2))), rows),
                         ((1, 0), (0, 1), (0, 1), (1, 0), (1, 0)))
        self.assertEqual(letter_waits(Station([1], ("come", 2)), rows), ((0, 1, 2), (2, 3)))
        self.assertEqual(left_heaps(Station([2], ("come", 2)), rows), ((0, 2), (0, 0), (0, 0)))
        self.assertEqual(played(Station([0, 3], ("come", 1)), [[1, 0, 0]]), ((0,), (1,), (0,)))

    def test_turns_stay(self):
        # Behind its last letter to go a flow still holds, with none to go, till one is to leave.
        station = Station([1], ("turns", (1, 1, 1)))
        self.assertEqual(played(station, [[1, 0], [0, 1], [1, 0]]), ((1, 0, 0), (0, 1, 0), (0, 0, 1)))
        # While no letter is left, who holds stays, too.
        station = Station([2], ("turns", (3, 1)))
        self.assertEqual(played(station, [[1, 0, 0, 3], [0, 0, 0, 3]]),
                         ((1, 0), (0, 0), (0, 0), (2, 0), (1, 1), (0, 2)))
        self.assertEqual(played(station, [[0, 2], [1, 2]]), ((0, 1), (2, 0), (0, 2)))

    def test_shares_marks(self):
        # A flow that comes anew begins at the station's mark, not behind what it missed.
        station = Station([1], ("shares", (1, 1)))
        self.assertEqual(played(station, [[4, 0, 0], [0, 0, 2]]),
                         ((1, 0), (1, 0), (0, 1), (1, 0), (0, 1), (1, 0)))
        # When none is left the station's mark goes up to the greatest next mark.
        self.assertEqual(played(station, [[3, 0, 0, 1], [0, 0, 0, 2]]),
                         ((1, 0), (1, 0), (1, 0), (1, 0), (0, 1), (0, 1)))

    def test_same_number_leaves(self):
        lots = Lots(103)
        for _ in range(80):
            flows = 1 + lots.below(4)
            rows = some_rows(lots, flows)
            speeds = some_station(lots, flows).speeds
            runs, waits = {}, {}
            for word in ("ranks", "come", "turns", "shares"):
                told = flows if word in ("ranks", "come") else tuple(1 + lots.below(5) for _ in range(flows))
                station = Station(speeds, (word, told))
                runs[word] = [sum(row) for row in played(station, rows)]
                waits[word] = max([0] + [one for row in letter_waits(station, rows) for one in row])
                heaps = [sum(row) for row in left_heaps(station, rows)]
                came = [sum(row[beat] if beat < len(row) else 0 for row in rows) for beat in range(len(heaps))]
                given = [speeds[beat % len(speeds)] for beat in range(len(heaps))]
                for t, heap in enumerate(heaps):
                    ways = [sum(came[s:t + 1]) - sum(given[s:t + 1]) for s in range(t + 1)]
                    self.assertEqual(heap, max(ways + [0]))
            self.assertEqual(len(set(map(tuple, runs.values()))), 1)
            self.assertEqual(min(waits.values()), waits["come"])

    def test_ranks_whatever_comes_behind(self):
        lots = Lots(104)
        for _ in range(60):
            rows = some_rows(lots, 3)
            station = Station(some_station(lots).speeds, ("ranks", 3))
            told = played(station, rows)
            alone = played(station, [rows[0], rows[1], [0] * len(rows[0])])
            pairs = zip(told, alone + ((0, 0, 0),) * len(told))
            self.assertTrue(all(one[:2] == two[:2] for one, two in pairs))

    def test_first_unlike(self):
        station = Station([1], ("ranks", 2))
        rows = [[1, 1, 0], [0, 1, 0]]
        run = played(station, rows)
        self.assertEqual(run, ((1, 0), (1, 0), (0, 1)))
        for thing in (None, [], list(run), "run", 3, {}):
            self.assertEqual(first_unlike(station, rows, thing), 0)
        for thing, beat in (((), 0), (run[:1], 1), (run[:2], 2), (run + ((0, 0),), 3), (run + (None,), 3),
                            (((True, 0),) + run[1:], 0), (run[:1] + ([1, 0],) + run[2:], 1),
                            (run[:2] + ((1, 0),), 2), (run[:2] + ((0, 1, 0),), 2), (run[:2] + ((0,),), 2),
                            (run[:1] + ((1, False), (0, 1)), 1), (run[:1] + ((1, 0.0), (0, 1)), 1),
                            (run[:1] + (7, (0, 1)), 1), ((run[0], run[1], (0, True)), 2)):
            self.assertEqual(first_unlike(station, rows, thing), beat)
        self.assertIsNone(first_unlike(station, rows, tuple(tuple(row) for row in run)))

    def test_limits(self):
        speeds = [0] * 59 + [3]
        self.assertEqual(len(played(Station(speeds, ("come", 1)), [[198]])), 3960)
        self.assertEqual(len(played(Station([1] + [0] * 39, ("come", 1)), [[100]])), 3961)
        speeds = [1] + [0] * 42
        self.assertEqual(len(played(Station(speeds, ("come", 1)), [[94]])), 4000)
        for call in (played, letter_waits, left_heaps):
            self.too_many(4000, call, Station(speeds, ("come", 1)), [[95]])
            self.too_many(4000, call, Station([0, 1], ("turns", (1,))), [[2001]])
        self.too_many(4000, first_unlike, Station([0, 1], ("turns", (1,))), [[2001]], None)
        self.assertEqual(len(played(Station([0, 1], ("turns", (1,))), [[2000]])), 4000)
        self.assertEqual(len(played(Station([3], ("shares", (1, 2, 3, 4))), [[3000]] * 4)), 4000)
        self.assertEqual(played(Station([1000], ("ranks", 1)), [[12000]]), ((1000,),) * 12)

    def test_refuses(self):
        station = Station([1], ("ranks", 2))
        for thing in NO_STATIONS:
            for call in (played, letter_waits, left_heaps):
                self.refuses(BadStation, call, thing, None, part=None)
            self.refuses(BadStation, first_unlike, thing, None, None, part=None)
        for rows in (None, [], [[1]], [[1], [True]], [[1], [1, 2]], [[6000], [6001]]):
            for call in (played, letter_waits, left_heaps):
                self.refuses(BadRows, call, station, rows)
            self.refuses(BadRows, first_unlike, station, rows, ())

    def test_rows_stay(self):
        rows = [[1, 2], (0, 3)]
        played(Station([1], ("shares", (1, 2))), rows)
        self.assertEqual(rows, [[1, 2], (0, 3)])


if __name__ == "__main__":
    unittest.main()
