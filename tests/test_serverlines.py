"""[45]: servers in a line."""

import unittest

from worstwait.bounds import goes_out, longest_wait
from worstwait.closures import closure
from worstwait.curves import Curve, flat, late, line
from worstwait.errors import BadCurve, BadServices
from worstwait.foldings import unit
from worstwait.joined import later, times
from worstwait.serverlines import in_line, waits_in_line
from worstwait.services import least_gone
from tests.plain import Case, Lots, long_curve, numbers, some_curve
from tests.test_bounds import gives
from tests.test_closures import two_parts
from tests.test_services import some_row
from tests.test_ways import stair

NO_SERVICES = (None, 0, flat(1), "services", {}, {0: flat(1)}, [], (), [flat(1)] * 9, [None], [flat(1), 0], [[flat(1)]],
               [flat(1), [0, 1]])


def folded(rows, many):
    """The least sums of all ways of parting the beats among rows."""
    told = rows[0]
    for row in rows[1:]:
        told = [min(told[s] + row[t - s] for s in range(t + 1)) for t in range(many)]
    return told


def plain_waits(promise, services):
    """The longest waits at each service, by goes_out of the one ahead, as [45] tells them."""
    told, door = [], closure(promise)
    for service in services:
        found = None if door is None else longest_wait(door, service)
        if found is None:
            return told + [None]
        told.append(found[0])
        door = goes_out(door, service)
    return told


class Lines(Case):
    def test_folding_of_all(self):
        lots = Lots(541)
        for _ in range(120):
            services = [some_curve(lots) for _ in range(1 + lots.below(4))]
            told = in_line(services)
            self.same(told, folded([gives(one, 60) for one in services], 60))
            self.assertEqual(in_line(tuple(services)), told)
            self.assertEqual(in_line(services[::-1]), told)

    def test_one_behind_the_other(self):
        lots = Lots(542)
        for _ in range(120):
            services = [some_curve(lots) for _ in range(1 + lots.below(4))]
            came = some_row(lots, 20)
            row = came
            for service in services:
                row = least_gone(row, service)
            self.assertEqual(least_gone(came, in_line(services)), row)

    def test_edges(self):
        for service, told in ((flat(None), unit()), (flat(7), Curve([0, 7], 1, 0)), (line(3, 1, 2), line(3, 1, 2)),
                              (Curve([3, 3, None], 1, 0), Curve([0, 3, None], 1, 0)), (unit(), unit())):
            self.assertEqual(in_line([service]), told)
            self.assertEqual(in_line([unit(), service, flat(None)]), told)
        self.assertEqual(in_line([late(1, 1, 1)] * 8), late(8, 1, 1))
        self.assertEqual(in_line([flat(2)] * 8), Curve([0, 2], 1, 0))

    def test_too_many(self):
        self.too_many(4000, in_line, [stair(67), line(0, 1, 60)])
        self.too_many(4000, in_line, [long_curve(3000), long_curve(3000)])
        self.assertEqual(in_line([long_curve(4000)]), long_curve(4000))
        self.assertEqual(len(in_line([late(300, 1, 1)] * 8).start), 2401)

    def test_refuses(self):
        for thing in NO_SERVICES:
            self.refuses(BadServices, in_line, thing)
            self.refuses(BadServices, waits_in_line, later(line(0, 1, 1), 400), thing)
            self.refuses(BadCurve, waits_in_line, None, thing, part=None)
        for thing in (None, 0, [0, 1], "curve"):
            self.refuses(BadCurve, waits_in_line, thing, [flat(1)], part=None)


class Waits(Case):
    def test_each_and_whole(self):
        lots = Lots(543)
        ends = {True: 0, False: 0}
        for _ in range(200):
            promise = some_curve(lots, 5, 2)
            services = [some_curve(lots, 5, 6) for _ in range(1 + lots.below(3))]
            told = waits_in_line(promise, services)
            self.assertTrue(type(told) is tuple and type(told[1]) is list)
            whole, each = told
            self.assertEqual(each, plain_waits(promise, services))
            found = longest_wait(promise, in_line(services))
            self.assertEqual(whole, None if found is None else found[0])
            ends[each[-1] is None] += 1
            if each[-1] is not None:
                self.assertEqual(len(each), len(services))
                self.assertIsNotNone(whole)
                self.assertLessEqual(whole, sum(each))
        self.assertGreater(min(ends.values()), 40)

    def test_by_hand(self):
        # The burst of 4 is paid at each one, but once in the line.
        self.assertEqual(waits_in_line(line(3, 1, 1), [late(2, 2, 1)]), (3, [3]))
        self.assertEqual(waits_in_line(line(3, 1, 1), [late(2, 2, 1)] * 2), (5, [3, 4]))
        self.assertEqual(waits_in_line(line(3, 1, 1), [late(2, 2, 1), line(0, 1, 2), flat(9)]), (None, [3, None]))
        self.assertEqual(waits_in_line(line(3, 1, 1), [flat(None)] * 8), (0, [0] * 8))

    def test_ends_without_end(self):
        ending = Curve([0, 3, 5, None], 1, 0)
        # All at once: the wait has an end, the heap has none, and what goes out none.
        self.assertEqual(waits_in_line(flat(None), [ending]), (2, [2]))
        self.assertEqual(waits_in_line(flat(None), [ending, unit()]), (2, [2, None]))
        self.assertEqual(waits_in_line(flat(None), [unit(), ending]), (2, [0, 2]))
        self.assertEqual(waits_in_line(flat(None), [unit(), ending, unit(), unit()]), (2, [0, 2, None]))
        self.assertEqual(waits_in_line(flat(None), [line(0, 1, 1), unit()]), (None, [None]))
        # The heap has an end, the wait has none.
        self.assertEqual(waits_in_line(flat(7), [flat(5), flat(9)]), (None, [None]))

    def test_no_closure_is_taken_again(self):
        # The closure, and what goes out, have more than 400 values, though the promise has not.
        promise = two_parts(30, 20)
        self.assertGreater(len(closure(promise).start), 400)
        self.assertEqual(waits_in_line(promise, [times(line(0, 1, 1), 10 ** 9)] * 3), (0, [0, 0, 0]))

    def test_too_many(self):
        self.too_many(400, waits_in_line, later(line(0, 1, 1), 400), [flat(1)])
        self.too_many(4000, waits_in_line, flat(1), [long_curve(3000), long_curve(3000)])


if __name__ == "__main__":
    unittest.main()
