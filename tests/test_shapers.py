"""[36], [38]: shapers."""

import unittest

from worstwait.closures import closure
from worstwait.curves import Curve, flat, line
from worstwait.errors import BadCurve, BadTraffic
from worstwait.foldings import folding, unit
from worstwait.joined import is_below, later
from worstwait.joints import joint
from worstwait.measures import measured
from worstwait.promises import keeps
from worstwait.shapers import heap_in, shaped, wait_in
from worstwait.traffics import curve_of, is_endless
from worstwait.ways import longest_across, most_above
from tests.plain import INF, Case, Lots, numbers, some_curve
from tests.test_closures import two_parts
from tests.test_promises import some_endless
from tests.test_traffics import NO_TRAFFICS, some_traffic

NO_CURVES = (None, 0, [0, 1], "curve", True)


def plain_shaped(row, promise):
    """Letter by letter: at each beat one more goes out as long as what went out keeps the promise."""
    most, out = numbers(promise, len(row)), [0]
    for beat in range(1, len(row)):
        gone = out[-1]
        while gone < row[beat] and all(gone + 1 - out[s] <= most[beat - s] for s in range(beat)):
            gone += 1
        out.append(gone)
    return out


def plain_waits(row, out):
    """The wait of each letter: the beat in which it goes out less that in which it came; INF if it stays."""
    told = []
    for letter in range(1, row[-1] + 1):
        came = next(t for t, many in enumerate(row) if many >= letter)
        gone = [t for t, many in enumerate(out) if many >= letter]
        told.append(gone[0] - came if gone else INF)
    return told


class Shapers(Case):
    def test_letter_by_letter(self):
        lots = Lots(611)
        ends = {}
        for place in range(300):
            traffic = some_traffic(lots, 6) if place % 2 else some_endless(lots, 4, 2)
            promise = some_curve(lots, 5, 2)
            row = numbers(curve_of(traffic), 160)
            out = plain_shaped(row, promise)
            told = shaped(traffic, promise)
            self.assertTrue(is_endless(told))
            self.same(told, out)
            heaps = [came - gone for came, gone in zip(row, out)]
            heap, wait = heap_in(traffic, promise), wait_in(traffic, promise)
            without = max(heaps) > max(heaps[:80])
            self.assertEqual(heap, None if without else max(heaps))
            waits = plain_waits(row[:80], out)
            if wait is None:
                self.assertTrue(INF in waits or max(waits) > max(waits[:row[40]] + [0]))
            else:
                self.assertEqual(wait, max(waits + [0]))
            kind = heap is None, wait is None
            ends[kind] = ends.get(kind, 0) + 1
        self.assertEqual(len(ends), 3)
        self.assertGreater(min(ends.values()), 5)

    def test_laws(self):
        lots = Lots(612)
        kept = {True: 0, False: 0}
        for place in range(200):
            traffic = some_traffic(lots) if place % 2 else some_endless(lots)
            promise, other = some_curve(lots), some_curve(lots)
            told, endless = shaped(traffic, promise), curve_of(traffic)
            self.assertEqual(told, folding(endless, closure(promise)))
            self.assertTrue(keeps(told, promise) and is_below(told, endless))
            self.assertIs(told == endless, keeps(traffic, promise))
            kept[told == endless] += 1
            self.assertEqual(shaped(told, other), shaped(shaped(endless, other), promise))
            self.assertEqual(shaped(told, other), shaped(traffic, joint((promise, other))))
            self.assertEqual(heap_in(traffic, promise), most_above(measured(traffic), closure(promise))[0])
            self.assertEqual(wait_in(traffic, promise), longest_across(measured(traffic), closure(promise))[0])
        self.assertGreater(min(kept.values()), 30)

    def test_by_hand(self):
        self.assertEqual(shaped([5], line(0, 2, 1)), Curve([0, 2, 4, 5], 1, 0))
        self.assertEqual((heap_in([5], line(0, 2, 1)), wait_in([5], line(0, 2, 1))), (3, 2))
        self.assertEqual((heap_in([], flat(0)), wait_in([0, 0], flat(0))), (0, 0))
        self.assertEqual((heap_in([3], flat(2)), wait_in([3], flat(2))), (1, None))
        self.assertEqual((heap_in(line(0, 2, 1), line(3, 1, 1)), wait_in(line(0, 2, 1), line(3, 1, 1))), (None, None))
        self.assertEqual((heap_in(line(5, 9, 1), flat(None)), wait_in(line(5, 9, 1), unit())), (0, 0))
        self.assertEqual(shaped([1] * 1000, flat(None)), curve_of([1] * 1000))
        self.assertEqual(wait_in([1000], line(0, 1, 1)), 999)

    def test_too_many(self):
        stair = closure(Curve([0] + [1] * 67 + [None], 1, 0))
        for call in (shaped, heap_in, wait_in):
            self.too_many(4000, call, stair, line(1, 1, 60))
            self.too_many(400, call, [1], later(flat(1), 400))
            self.too_many(4000, call, [1], two_parts(64, 10))
        # What goes out would have too many values, which heap_in and wait_in do not tell.
        self.too_many(4000, shaped, [4001], line(0, 1, 1))
        self.assertEqual((heap_in([4001], line(0, 1, 1)), wait_in([4001], line(0, 1, 1))), (4000, 4000))
        self.assertEqual(len(shaped([3999], line(0, 1, 1)).start), 4000)

    def test_refuses(self):
        for call in (shaped, heap_in, wait_in):
            for thing in NO_CURVES:
                self.refuses(BadCurve, call, None, thing, part=None)
            for thing in NO_TRAFFICS:
                self.refuses(BadTraffic, call, thing, later(flat(1), 400), part="traffic")


if __name__ == "__main__":
    unittest.main()
