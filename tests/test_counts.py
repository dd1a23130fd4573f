"""[34]: all traffics of a promise, told by its rests."""

import unittest
from itertools import product

from worstwait.closures import closure
from worstwait.counts import all_moves, all_rests, count_kept, kept_at, kept_place
from worstwait.curves import Curve, flat, line, value
from worstwait.errors import BadCurve, BadNumber, BadTraffic, NotKept
from worstwait.foldings import unit
from worstwait.joined import later, raised
from worstwait.rests import rest_of
from tests.plain import NO_NUMBERS, Case, Lots, numbers, some_curve
from tests.test_closures import two_parts
from tests.test_promises import plain_breach, plain_row
from tests.test_traffics import NO_TRAFFICS

BIG = 10 ** 9


def few_letters(lots):
    """A promise that lets few letters at beat 1."""
    while True:
        promise = some_curve(lots, 5, 2)
        if numbers(promise, 2)[1] <= 3:
            return promise


def all_kept(promise, beats):
    """All traffics of so many beats that keep the promise, ascending, one by one."""
    most = numbers(promise, 2)[1]
    return [one for one in product(range(int(most) + 1), repeat=beats)
            if plain_breach(plain_row(one), promise) is None]


def plain_rests(promise):
    """All rests in the sequence in which they are met, each with a traffic that leads to it."""
    rests, traffics, moves = [closure(promise)], [()], []
    while len(moves) < len(rests):
        rest, traffic = rests[len(moves)], traffics[len(moves)]
        row = []
        for letters in range(value(rest, 1) + 1):
            behind = rest_of(traffic + (letters,), promise)
            if behind not in rests:
                rests.append(behind)
                traffics.append(traffic + (letters,))
            row.append(rests.index(behind))
        moves.append(tuple(row))
    return tuple(rests), tuple(moves)


def rows_of_rests(promise, most=400):
    """As plain_rests, of a closed promise, each rest a row of numbers; the number of rests alone if there are more."""
    many = len(promise.start) + 1
    let = numbers(promise, 10 * many)

    def row_behind(traffic):
        came, told = [0], []
        for letters in traffic[::-1]:
            came.append(came[-1] + letters)
        for d in range(many):
            told.append(min(let[d + s] - letters for s, letters in enumerate(came)))
        return tuple(told)

    traffics, moves = [()], []
    places = {row_behind(()): 0}
    while len(moves) < len(traffics) <= most:
        traffic, row = traffics[len(moves)], []
        for letters in range(row_behind(traffic)[1] + 1):
            behind = row_behind(traffic + (letters,))
            if behind not in places:
                places[behind] = len(traffics)
                traffics.append(traffic + (letters,))
            row.append(places[behind])
        moves.append(tuple(row))
    return list(places), tuple(moves)


class Rests(Case):
    def test_all_in_their_sequence(self):
        lots = Lots(231)
        for _ in range(60):
            promise = few_letters(lots)
            rests, moves = plain_rests(promise)
            self.assertEqual(all_rests(promise), rests)
            self.assertEqual(all_moves(promise), moves)
            self.assertIs(type(all_rests(promise)), tuple)
            self.assertTrue(all(type(row) is tuple for row in all_moves(promise)))

    def test_by_hand(self):
        one, two = all_rests(flat(1))
        self.same(one, [0, 1, 1, 1])
        self.same(two, [0, 0, 0, 0])
        self.assertEqual(all_moves(flat(1)), ((0, 1), (1,)))
        self.assertEqual(count_kept(flat(1), 3), 4)
        self.assertEqual(kept_at(flat(1), 3, 0), (0, 0, 0))
        self.assertEqual(kept_at(flat(1), 3, 3), (1, 0, 0))

    def test_no_letters(self):
        self.assertEqual(all_rests(flat(0)), (flat(0),))
        self.assertEqual(all_moves(flat(0)), ((0,),))
        self.assertEqual(count_kept(flat(0), 300), 1)

    def test_60_and_61_letters(self):
        self.assertEqual(len(all_rests(flat(60))), 61)
        self.assertEqual(all_moves(flat(60))[0], tuple(range(61)))
        for call, more in ((all_rests, ()), (all_moves, ()), (count_kept, (1,)), (kept_at, (1, 0)),
                           (kept_place, ([0],))):
            for promise in (flat(61), flat(None), unit(), Curve([3, BIG], 1, 0), Curve([0, None], 1, 0)):
                self.too_many(60, call, promise, *more)
        self.assertEqual(len(all_rests(Curve([0, 60, None], 1, 0))), 1)

    def test_400_and_401_rests(self):
        # A burst of b, and one letter more each k beats: b * k parts of a letter can be lacking.
        self.assertEqual(len(all_rests(line(3, 1, 20))), 61)
        rests, moves = plain_rests(line(3, 1, 20))
        self.assertEqual((all_rests(line(3, 1, 20)), all_moves(line(3, 1, 20))), (rests, moves))
        self.assertEqual(len(all_rests(line(7, 1, 57))), 400)
        self.assertEqual(kept_place(line(7, 1, 57), [7]), 7)
        for call, more in ((all_rests, ()), (all_moves, ()), (count_kept, (0,)), (kept_at, (0, 0)),
                           (kept_place, ([],))):
            self.too_many(400, call, line(10, 1, 40), *more)
            self.too_many(400, call, line(8, 1, 50), *more)


    def test_near_400_rests(self):
        for promise, many in ((line(7, 1, 57), 400), (line(19, 1, 21), 400), (line(4, 1, 40), 161)):
            rows, moves = rows_of_rests(promise)
            self.assertEqual(len(rows), many)
            self.assertEqual([tuple(numbers(rest, len(rows[0]))) for rest in all_rests(promise)], rows)
            self.assertEqual(all_moves(promise), moves)
            self.assertEqual(count_kept(promise, 2), sum(len(moves[place]) for place in moves[0]))
            last = count_kept(promise, 60) - 1
            for place in (0, 1, 10 ** 6, last // 3, last):
                self.assertEqual(kept_place(promise, kept_at(promise, 60, place)), place)
            self.assertIsNone(kept_at(promise, 60, last + 1))
        for promise in (line(8, 1, 50), line(10, 1, 40), line(11, 1, 59)):
            self.assertGreater(len(rows_of_rests(promise)[0]), 400)
            for call, more in ((all_rests, ()), (all_moves, ()), (count_kept, (3,)), (kept_at, (3, 0)),
                               (kept_place, ([1],))):
                self.too_many(400, call, promise, *more)

    def test_rests_of_all_kinds(self):
        lots = Lots(234)
        for _ in range(60):
            promise = closure(raised(some_curve(lots, 7, 3), lots.below(3)))
            if promise.start[-1] is None or len(promise.start) > 20 or numbers(promise, 2)[1] > 9:
                continue
            rows, moves = rows_of_rests(promise, 60)
            if len(rows) <= 60:
                told = all_rests(promise)
                self.assertEqual([tuple(numbers(rest, len(rows[0]))) for rest in told], rows)
                self.assertEqual(all_moves(promise), moves)
                for beats in (0, 1, 5):
                    self.assertEqual(count_kept(promise, beats), self.plain_count(moves, beats))

    def plain_count(self, moves, beats, place=0):
        if beats == 0:
            return 1
        return sum(self.plain_count(moves, beats - 1, to) for to in moves[place])


class Kept(Case):
    def test_one_by_one(self):
        lots = Lots(232)
        for _ in range(40):
            promise = few_letters(lots)
            for beats in range(5):
                kept = all_kept(promise, beats)
                self.assertEqual(count_kept(promise, beats), len(kept))
                for place, traffic in enumerate(kept):
                    told = kept_at(promise, beats, place)
                    self.assertEqual(told, traffic)
                    self.assertIs(type(told), tuple)
                    self.assertEqual(kept_place(promise, list(traffic)), place)
                self.assertIsNone(kept_at(promise, beats, len(kept)))
                self.assertIsNone(kept_at(promise, beats, len(kept) + BIG))

    def test_what_does_not_keep_it(self):
        promise = line(1, 1, 3)
        for traffic in product(range(3), repeat=4):
            wrong = plain_breach(plain_row(traffic), promise)
            if wrong is not None:
                self.refuses(NotKept, kept_place, promise, traffic, breach=wrong)

    def test_300_beats(self):
        self.assertEqual(count_kept(flat(1), 300), 301)
        self.assertEqual(count_kept(line(0, 1, 1), 300), 2 ** 300)
        self.assertEqual(kept_at(line(0, 1, 1), 300, 2 ** 299 + 1), (1,) + (0,) * 298 + (1,))
        self.assertEqual(kept_place(line(0, 1, 1), [1] * 300), 2 ** 300 - 1)
        self.assertEqual(kept_place(flat(1), [0] * 299 + [1]), 1)
        # No two letters side by side: Fibonacci's numbers.
        told = [count_kept(line(1, 1, 2), beats) for beats in range(5)]
        self.assertEqual(told, [len(all_kept(line(1, 1, 2), beats)) for beats in range(5)])
        self.assertEqual([count_kept(Curve([0, 1], 2, 1), beats) for beats in range(7)], [1, 2, 3, 5, 8, 13, 21])

    def test_no_beats(self):
        self.assertEqual(count_kept(flat(7), 0), 1)
        self.assertEqual(kept_at(flat(7), 0, 0), ())
        self.assertIsNone(kept_at(flat(7), 0, 1))
        self.assertEqual(kept_place(flat(7), ()), 0)


class Wrong(Case):
    def test_refuses(self):
        for thing in (None, 0, [0, 1], "promise"):
            self.refuses(BadCurve, all_rests, thing, part=None)
            self.refuses(BadCurve, all_moves, thing, part=None)
            self.refuses(BadCurve, count_kept, thing, -1, part=None)
            self.refuses(BadCurve, kept_at, thing, -1, -1, part=None)
            self.refuses(BadCurve, kept_place, thing, None, part=None)
        for wrong in NO_NUMBERS + (-1, 301):
            self.refuses(BadNumber, count_kept, flat(61), wrong, part="beats")
            self.refuses(BadNumber, kept_at, flat(61), wrong, -1, part="beats")
        for wrong in NO_NUMBERS + (-1,):
            self.refuses(BadNumber, kept_at, flat(61), 0, wrong, part="place")
        for thing in NO_TRAFFICS + ([0] * 301, line(0, 1, 1)):
            self.refuses(BadTraffic, kept_place, flat(61), thing, part="traffic")

    def test_what_comes_first(self):
        self.refuses(NotKept, kept_place, flat(61), [62], breach=(0, 1))
        self.refuses(NotKept, kept_place, later(flat(61), 400), [1], breach=(0, 1))
        long, far = later(line(0, 1, 1), 400), two_parts(64, 1)
        self.assertEqual(value(far, 1), 63)
        for call, more in ((all_rests, ()), (all_moves, ()), (count_kept, (1,)), (kept_at, (1, 0)),
                           (kept_place, ([0],))):
            self.too_many(400, call, long, *more)
            self.too_many(60, call, far, *more)
            self.too_many(60, call, raised(long, 61), *more)
            self.too_many(4000, call, Curve([0, 1, BIG], 1, 0), *more)


if __name__ == "__main__":
    unittest.main()
