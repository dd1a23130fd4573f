"""[46]: parcels."""

import unittest

from worstwait.curves import Curve, flat, late, line
from worstwait.errors import BadCurve, BadNumber, BadRow
from worstwait.foldings import unit
from worstwait.joined import later, raised
from worstwait.parcels import parcel_promise, parcel_service, whole_parcels
from worstwait.promises import breach, keeps
from worstwait.runs import run_waits
from worstwait.services import keeps_service
from worstwait.traffics import traffic_of
from tests.plain import NO_NUMBERS, Case, Lots, long_curve, numbers, some_curve
from tests.test_services import some_row
from tests.test_traffics import NO_ROWS

BIG = 10 ** 9
MILLION = 10 ** 6


def plain_whole(row, sizes):
    sums = [sum(sizes[:many]) for many in range(len(sizes) + 1)]
    return tuple(max(one for one in sums if one <= letters) for letters in row)


class Parcels(Case):
    def test_whole_parcels(self):
        lots = Lots(341)
        for _ in range(200):
            row = some_row(lots, lots.below(10))
            sizes = [1 + lots.below(4) for _ in range(lots.below(8))]
            told = whole_parcels(row, sizes)
            self.assertIs(type(told), tuple)
            self.assertEqual(told, plain_whole(row, sizes))
            self.assertEqual(whole_parcels(tuple(row), tuple(sizes)), told)

    def test_edges(self):
        self.assertEqual(whole_parcels([0], []), (0,))
        self.assertEqual(whole_parcels([0, 9, 9], []), (0, 0, 0))
        self.assertEqual(whole_parcels([0, 10 ** 30], [MILLION] * 400), (0, 400 * MILLION))
        self.assertEqual(whole_parcels([0, MILLION - 1, MILLION], [MILLION]), (0, 0, MILLION))
        self.assertEqual(whole_parcels([0] + [500] * 1000, [1] * 400), (0,) + (400,) * 1000)

    def test_parcel_service(self):
        lots = Lots(342)
        for _ in range(100):
            service, most = some_curve(lots), 1 + lots.below(9)
            row = numbers(service, 60)
            self.same(parcel_service(service, most), [0] + [max(0, one - most + 1) for one in row[1:]])
        self.assertEqual(parcel_service(flat(5), 1), Curve([0, 5], 1, 0))
        self.assertEqual(parcel_service(flat(None), 5), unit())
        self.assertEqual(parcel_service(unit(), MILLION), unit())
        self.assertEqual(parcel_service(Curve([3, 4, 9, None], 1, 0), 5), Curve([0, 0, 5, None], 1, 0))
        self.assertEqual(parcel_service(flat(BIG), MILLION), Curve([0, BIG - MILLION + 1], 1, 0))
        self.assertEqual(parcel_service(flat(5), MILLION), flat(0))
        self.assertEqual(parcel_service(late(3, 2, 1), 1), late(3, 2, 1))

    def test_parcel_service_of_many_values(self):
        row = numbers(line(0, 1, 1), 4100)
        self.same(parcel_service(line(0, 1, 1), 2000), [max(0, one - 1999) for one in row])
        self.assertEqual(len(parcel_service(line(0, 1, 1), 4000).start), 4000)
        self.too_many(4000, parcel_service, line(0, 1, 1), 4001)
        self.too_many(4000, parcel_service, line(0, 1, 60), MILLION)
        self.assertEqual(parcel_service(long_curve(4000), 1), long_curve(4000))
        self.assertEqual(len(parcel_service(later(line(0, 3, 1), 3998), 3).start), 4000)
        self.assertEqual(len(parcel_service(later(line(0, 3, 1), 3998), 4).start), 4000)
        self.too_many(4000, parcel_service, later(line(0, 3, 1), 3998), 5)
        # 0 at beat 0 instead of what is there.
        self.assertEqual(parcel_service(raised(line(0, 1, 1), 7), 3).start, (0, 6))

    def test_parcel_promise(self):
        lots = Lots(343)
        for _ in range(100):
            promise, most = some_curve(lots), 1 + lots.below(9)
            row = numbers(promise, 60)
            self.same(parcel_promise(promise, most), [0] + [one + most - 1 for one in row[1:]])
        self.assertEqual(parcel_promise(flat(None), 5), unit())
        self.assertEqual(parcel_promise(flat(0), 1), flat(0))
        self.same(parcel_promise(flat(BIG), MILLION), [0] + [BIG + MILLION - 1] * 3)
        self.assertEqual(parcel_promise(Curve([3, 4, None], 1, 0), 5), Curve([0, 8, None], 1, 0))
        self.assertEqual(parcel_promise(line(0, 1, 1), 3), Curve([0, 3], 1, 1))
        self.assertEqual(len(parcel_promise(long_curve(4000), 1).start), 4000)
        stairs = Curve([0] * 59 + [1], 60, 60)
        self.assertEqual(parcel_promise(stairs, 2).start[:2], (0, 1))
        self.assertEqual(len(parcel_promise(later(stairs, 3940), 1).start), 4000)
        self.assertEqual(len(parcel_promise(later(line(0, 1, 1), 3999), 9).start), 4000)
        self.same(parcel_promise(later(stairs, 3940), 2), [0] + [one + 1 for one in numbers(later(stairs, 3940), 4200)[1:]])


class Hearts(Case):
    def test_runs_of_whole_parcels(self):
        lots = Lots(344)
        waiting = 0
        for _ in range(150):
            sizes = [1 + lots.below(5) for _ in range(12)]
            most = max(sizes)
            sums = [0]
            for size in sizes:
                sums.append(sums[-1] + size)
            many, came = 0, [0]
            for _ in range(10):
                many = min(12, many + lots.of([0, 0, 1, 2]))
                came.append(sums[many])
            gone = [0]
            for letters in came[1:]:
                gone.append(lots.of([gone[-1], gone[-1] + lots.below(letters - gone[-1] + 1)]))
            whole = whole_parcels(gone, sizes)
            self.assertEqual(run_waits((came, whole)), run_waits((came, gone)))
            service = some_curve(lots, 6, 4)
            if keeps_service((came, gone), service):
                self.assertTrue(keeps_service((came, whole), parcel_service(service, most)))
            waiting += whole != tuple(gone)
        self.assertGreater(waiting, 30)

    def test_promises_of_whole_parcels(self):
        lots = Lots(345)
        kept = 0
        for _ in range(200):
            row = some_row(lots, 10)
            sizes = [1 + lots.below(4) for _ in range(10)]
            promise = some_curve(lots, 5, 5)
            if not keeps(traffic_of(row), promise):
                continue
            kept += 1
            told = whole_parcels(row, sizes)
            self.assertIsNone(breach(traffic_of(told), parcel_promise(promise, max(sizes))))
        self.assertGreater(kept, 20)


class Wrong(Case):
    def test_refuses(self):
        for thing in NO_ROWS:
            self.refuses(BadRow, whole_parcels, thing, None)
        for sizes in (None, 3, "1", {1: 1}, {1}, [0], [-1], [MILLION + 1], [True], [1, False], [1.0], ["1"], [None],
                      [1] * 401, flat(1)):
            self.refuses(BadNumber, whole_parcels, [0, 1], sizes, part="sizes")
        for call in (parcel_service, parcel_promise):
            for thing in (None, 0, [0, 1], "curve"):
                self.refuses(BadCurve, call, thing, -1, part=None)
            for wrong in NO_NUMBERS + (0, -1, MILLION + 1):
                self.refuses(BadNumber, call, flat(None), wrong, part="most")


if __name__ == "__main__":
    unittest.main()
