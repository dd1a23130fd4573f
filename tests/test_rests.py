"""[33]: rests and meters."""

import unittest
from itertools import product

from worstwait.closures import closure
from worstwait.curves import Curve, flat, line, value
from worstwait.errors import BadCurve, BadMeter, BadNumber, BadTraffic, NotKept
from worstwait.foldings import unit
from worstwait.joined import is_below, later
from worstwait.promises import breach, keeps
from worstwait.rests import Meter, metered, rest_of, room
from worstwait.traffics import curve_of
from tests.plain import NO_NUMBERS, Case, Lots, numbers, some_curve, told
from tests.test_closures import two_parts
from tests.test_promises import plain_breach, plain_row
from tests.test_traffics import NO_TRAFFICS, some_traffic

BIG = 10 ** 9


def plain_rest(traffic, promise, many):
    """The most letters behind a traffic, by trying all that may come beat by beat."""
    row = plain_row(traffic)
    most = numbers(promise, len(row) + many)
    best = [0] * many
    ends = [tuple(row)]
    for beat in range(1, many):
        further = []
        for end in ends:
            letters = 0
            while all(end[-1] + letters - end[s] <= most[len(end) - s] for s in range(len(end))):
                further.append(end + (end[-1] + letters,))
                letters += 1
        ends = further
        best[beat] = max(end[-1] for end in ends) - row[-1]
    return best


def kept_traffic(lots, promise, longest=6):
    """A traffic that keeps a promise, and comes near to what is let."""
    traffic = []
    for _ in range(lots.below(longest + 1)):
        letters = 0
        while letters < 4 and plain_breach(plain_row(traffic + [letters + 1]), promise) is None:
            letters += 1
        traffic.append(lots.of([0, letters, lots.below(letters + 1)]))
    return traffic


class Rests(Case):
    def test_all_that_may_come(self):
        lots = Lots(221)
        done = 0
        while done < 60:
            promise = some_curve(lots, 6, 2)
            if not numbers(promise, 2)[1] <= 3:
                continue
            traffic = kept_traffic(lots, promise)
            self.assertEqual([value(rest_of(traffic, promise), beat) for beat in range(5)],
                             plain_rest(traffic, promise, 5))
            done += 1

    def test_least_of_all_stretches(self):
        lots = Lots(222)
        for _ in range(150):
            promise = some_curve(lots)
            traffic = kept_traffic(lots, promise)
            row, closed = plain_row(traffic), numbers(closure(promise), 120)
            n = len(traffic)
            wanted = [min(row[s] - row[n] + closed[n - s + d] for s in range(n + 1)) for d in range(100)]
            self.same(rest_of(traffic, promise), wanted)
            self.assertEqual(room(tuple(traffic), promise), told(wanted)[1])

    def test_exactly_what_may_follow(self):
        lots = Lots(223)
        done = 0
        while done < 150:
            promise = some_curve(lots, 5, 2)
            one, two = kept_traffic(lots, promise), kept_traffic(lots, promise)
            rest = rest_of(one, promise)
            both = plain_breach(plain_row(one + two), promise) is None
            self.assertIs(both, keeps(two, promise) and is_below(curve_of(two), rest))
            done += 1

    def test_equal_rests(self):
        promise = line(1, 1, 2)
        alike = unlike = 0
        kept = [one for one in product(range(3), repeat=4) if keeps(one, promise)]
        for one in kept:
            for two in kept:
                follow = [keeps(one + three, promise) == keeps(two + three, promise) for three in kept]
                equal = rest_of(one, promise) == rest_of(two, promise)
                # Two rests of so short starts differ at one of the first beats, if at all.
                self.assertIs(all(follow), equal)
                alike, unlike = alike + equal, unlike + (not equal)
        self.assertTrue(alike > len(kept) and unlike)

    def test_edges(self):
        self.assertEqual(rest_of([], line(2, 1, 2)), line(2, 1, 2))
        self.assertEqual(rest_of([], flat(None)), unit())
        self.assertEqual(rest_of([10 ** 30, 5], flat(None)), unit())
        self.assertIsNone(room([], flat(None)))
        self.assertEqual(rest_of([5, 1, 5], Curve([3, 5, None], 1, 0)), line(0, 5, 1))
        self.assertEqual(room([3], flat(3)), 0)
        self.assertEqual(room([2], flat(3)), 1)
        self.assertEqual(rest_of([1] * 1000, line(0, 1, 1)), line(0, 1, 1))
        self.assertEqual(rest_of([0] * 999 + [2], line(2, 1, 1)), line(1, 1, 1))
        self.assertEqual(rest_of([0] * 1000, flat(BIG)), closure(flat(BIG)))


class Meters(Case):
    def test_meters_follow_traffics(self):
        lots = Lots(224)
        for _ in range(100):
            promise = some_curve(lots)
            meter = Meter(promise)
            self.assertEqual((meter.closed, meter.rest), (closure(promise), closure(promise)))
            traffic = []
            for letters in kept_traffic(lots, promise) + [lots.below(4), 0]:
                most = value(meter.rest, 1)
                if most is not None and letters > most:
                    self.refuses(NotKept, metered, meter, letters, breach=None)
                    self.assertIsNotNone(breach(traffic + [letters], promise))
                    letters = most
                behind = metered(meter, letters)
                traffic.append(letters)
                self.assertEqual(behind.rest, rest_of(traffic, promise))
                self.assertEqual(behind.closed, meter.closed)
                self.assertIsInstance(behind, Meter)
                meter = behind

    def test_what_is_handed_in_stays(self):
        meter = Meter(flat(3))
        metered(meter, 2)
        self.assertEqual(meter, Meter(flat(3)))

    def test_equal(self):
        self.assertEqual(Meter(flat(3)), Meter(Curve([0, 3], 1, 0)))
        self.assertNotEqual(Meter(flat(3)), Meter(flat(2)))
        self.assertNotEqual(Meter(flat(3)), metered(Meter(flat(3)), 1))
        self.assertNotEqual(metered(Meter(flat(3)), 1), Meter(flat(2)))
        self.assertEqual(metered(Meter(line(0, 1, 1)), 0), Meter(line(0, 1, 1)))
        self.assertFalse(Meter(flat(3)) == flat(3))

    def test_without_end(self):
        meter = Meter(flat(None))
        self.assertEqual(metered(meter, 10 ** 30), meter)
        self.assertEqual(meter.rest, unit())
        meter = Meter(Curve([0, 2, None], 1, 0))
        self.assertEqual(metered(meter, 2), meter)
        self.refuses(NotKept, metered, meter, 3, breach=None)

    def test_long_starts(self):
        meter = Meter(two_parts(63, 10))
        told_rest = metered(meter, 0).rest
        self.assertEqual(told_rest, meter.rest)
        spent = metered(meter, value(meter.rest, 1)).rest
        self.assertEqual(value(spent, 0), 0)
        row, closed = numbers(meter.rest, 4100), numbers(meter.closed, 4100)
        self.same(spent, [min(row[d + 1] - row[1], closed[d]) for d in range(4099)])


class Wrong(Case):
    def test_refuses(self):
        for call in (rest_of, room):
            for thing in (None, 0, [0, 1], "promise"):
                self.refuses(BadCurve, call, None, thing, part=None)
            for thing in NO_TRAFFICS + (line(0, 1, 1), flat(0)):
                self.refuses(BadTraffic, call, thing, flat(1), part="traffic")
            self.refuses(NotKept, call, [2, 1, 1], line(2, 1, 2), breach=(0, 3))
            self.refuses(NotKept, call, [0, 3], line(1, 1, 1), breach=(1, 2))
        for thing in (None, 0, [0, 1], "promise"):
            self.refuses(BadCurve, Meter, thing, part=None)
        for thing in (None, 0, flat(1), (flat(1), flat(1))):
            self.refuses(BadMeter, metered, thing, -1)
        for wrong in NO_NUMBERS + (-1,):
            self.refuses(BadNumber, metered, Meter(flat(1)), wrong, part="letters")

    def test_too_many(self):
        long, far = later(line(1, 1, 1), 399), two_parts(64, 10)
        for most, promise in ((400, long), (4000, far)):
            for call in (rest_of, room):
                self.too_many(most, call, [], promise)
                self.refuses(BadTraffic, call, [True], promise, part="traffic")
            self.too_many(most, Meter, promise)
        # That it isn't kept comes first.
        self.refuses(NotKept, rest_of, [1], long, breach=(0, 1))
        self.refuses(NotKept, room, [BIG], far, breach=(0, 1))


if __name__ == "__main__":
    unittest.main()
