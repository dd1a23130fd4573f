"""[1] to [5]: what the package guarantees as a whole, through several files at once."""

import copy
import unittest

from worstwait.bookings import all_kept, breaking, is_bookings
from worstwait.bounds import greatest_heap, heap_run, longest_wait, wait_run
from worstwait.closures import closure
from worstwait.curves import Curve, flat, late, line
from worstwait.curvetexts import curve_of_text, curve_text
from worstwait.desk import Desk
from worstwait.earliest import earliest_run, missed
from worstwait.errors import TooMany
from worstwait.foldings import folding
from worstwait.joined import is_below
from worstwait.keepers import Keeper
from worstwait.loops import loop_above, loop_gap
from worstwait.measures import measured, measured_all
from worstwait.nets import Net
from worstwait.plays import left_heaps, letter_waits
from worstwait.promises import keeps
from worstwait.rests import Meter
from worstwait.runs import run_heaps, run_waits
from worstwait.searches import worst
from worstwait.serverlines import in_line, waits_in_line
from worstwait.services import keeps_service, least_gone
from worstwait.sessions import Session
from worstwait.shapers import heap_in, shaped, wait_in
from worstwait.stations import Station, rotated
from worstwait.systems import System, is_one, least_solved, solved
from worstwait.toldbounds import told_heap, told_wait
from worstwait.traffics import curve_of, traffic_of
from worstwait.windows import window_run
from worstwait.withins import are_alike, is_within, traffic_between
from tests.plain import Case, Lots, numbers, some_curve
from tests.test_bookings import some_bookings
from tests.test_gates import some_table
from tests.test_netbounds import small_net
from tests.test_nets import G, P
from tests.test_plays import some_rows, some_station
from tests.test_systems import some_system
from tests.test_traffics import some_traffic


class Guarantees(Case):
    def test_curves_have_one_form(self):
        lots = Lots(711)
        for _ in range(200):
            one, two = some_curve(lots, 5, 2), some_curve(lots, 5, 2)
            self.assertIs(one == two, numbers(one, 200) == numbers(two, 200))
            self.assertIs(one == two, curve_text(one) == curve_text(two))
            self.assertEqual(curve_of_text(curve_text(one)), one)
            self.assertIs(one == two, is_below(one, two) and is_below(two, one))

    def test_promises_and_their_traffics(self):
        lots = Lots(712)
        for _ in range(200):
            one, two, traffic = some_curve(lots), some_curve(lots), some_traffic(lots)
            row = curve_of(traffic)
            self.assertIs(keeps(traffic, one), is_below(row, folding(row, one)))
            self.assertIs(are_alike(one, two), closure(one) == closure(two))
            if not is_within(one, two):
                told = traffic_between(one, two)
                self.assertTrue(keeps(told, one) and not keeps(told, two))

    def test_waits_and_heaps(self):
        lots = Lots(713)
        for _ in range(150):
            traffics = [some_traffic(lots) for _ in range(1 + lots.below(3))]
            promise, service = measured_all(traffics), some_curve(lots, 6, 6)
            wait, heap = longest_wait(promise, service), greatest_heap(promise, service)
            for traffic in traffics:
                came = [sum(traffic[:t]) for t in range(len(traffic) + 1)]
                came = came + [came[-1]] * 30
                run = came, least_gone(came, service)
                self.assertTrue(keeps_service(run, service))
                if wait is not None:
                    self.assertLessEqual(max(one or 0 for one in run_waits(run)), wait[0])
                self.assertTrue(heap is None or max(run_heaps(run)) <= heap[0])
            for found, run, told in ((wait, wait_run(promise, service), run_waits), (heap, heap_run(promise, service), run_heaps)):
                if found is not None:
                    self.assertTrue(keeps(traffic_of(run[0]), promise) and keeps_service(run, service))
                    self.assertEqual(told(run)[found[1]], found[0])

    def test_a_burst_is_paid_once_and_shaping_again_costs_nothing(self):
        lots = Lots(714)
        for _ in range(100):
            promise, one, two = some_curve(lots, 4, 2), some_curve(lots, 5, 6), some_curve(lots, 5, 6)
            whole, each = waits_in_line(promise, [one, two])
            if each[-1] is not None:
                self.assertLessEqual(whole, sum(each))
                self.assertEqual(whole, longest_wait(promise, in_line([one, two]))[0])
            if closure(promise).start[-1] is not None:
                endless = closure(promise)
                self.assertEqual(shaped(endless, promise), endless)
                self.assertEqual((heap_in(endless, promise), wait_in(endless, promise)), (0, 0))

    def test_systems_and_loops(self):
        lots = Lots(715)
        for _ in range(40):
            system, promise = some_system(lots, 3), some_curve(lots, 4, 3)
            self.assertIs(is_one(system), solved(system) == least_solved(system))
            joint = lots.below(len(system.bases))
            gap = loop_gap(promise, system, 0, joint)
            for number in (0, 5, 50):
                above = loop_above(promise, system, 0, joint, number)
                self.assertIs(above is None, gap is not None and gap <= number)

    def test_played_runs_keep_told_bounds(self):
        lots = Lots(716)
        for _ in range(150):
            station = some_station(lots)
            rows = some_rows(lots, station.flows, 5, 3)
            promises = [measured(row) for row in rows]
            turned = rotated(station, lots.below(60))
            waits, heaps = letter_waits(turned, rows), left_heaps(turned, rows)
            for flow in range(station.flows):
                wait, heap = told_wait(station, promises, flow), told_heap(station, promises, flow)
                self.assertTrue(wait is None or max(waits[flow], default=0) <= wait)
                self.assertTrue(heap is None or max(row[flow] for row in heaps) <= heap)

    def test_bookings_are_taken_exactly_if_kept(self):
        lots = Lots(717)
        seen = {True: 0, False: 0}
        for _ in range(80):
            table, bookings = some_table(lots), some_bookings(lots, 1 + lots.below(3))
            self.assertTrue(is_bookings(bookings))
            told = breaking(table, bookings)
            self.assertIs(all_kept(table, bookings), told is None)
            seen[told is None] += 1
            if told is not None:
                beat, phase, rows = told
                ways = earliest_run(table, phase, rows, [booking[2] for booking in bookings])
                self.assertIsNotNone(missed(rows, ways, [booking[2] for booking in bookings]))
        self.assertGreater(min(seen.values()), 10)


class Conventions(Case):
    def test_objects_are_equal_to_nothing_else(self):
        net = Net((("a", G),), (("x", P, ("a",), 0),))
        for thing in (flat(1), Meter(flat(1)), System([flat(1)], []), Station([1], ("come", 1)), net, Session(net),
                      Keeper((1,), 16, [[0] * 16, [0] * 16]), Desk(net)):
            for other in (None, 0, 1, (), [], "x", {}, vars(thing), list(vars(thing).values()), object()):
                self.assertFalse(thing == other)
                self.assertTrue(thing != other)

    def test_lists_and_tuples(self):
        station, promises = Station([1, 2], ("ranks", 2)), [line(1, 1, 1), flat(2)]
        self.assertEqual(worst(station, promises, 1, 2), worst(station, tuple(promises), 1, 2))
        self.assertEqual(measured((1, 2)), measured([1, 2]))
        self.assertEqual(in_line((late(1, 1, 1),)), in_line([late(1, 1, 1)]))
        self.assertEqual(window_run(flat(1), 1, (1, 2)), window_run(flat(1), 1, [1, 2]))

    def test_nothing_handed_in_changes(self):
        lots = Lots(718)
        net = small_net(lots)
        traffics, services, row = [[1, 0, 2], [3]], [late(1, 2, 1), flat(4)], [0, 3, 3]
        limits = {flow[0]: 5 for flow in net.flows}
        before = copy.deepcopy((traffics, services, row, limits, net))
        measured_all(traffics)
        in_line(services)
        waits_in_line(line(1, 1, 1), services)
        window_run(services[0], 2, row)
        session = Session(net)
        for word in limits:
            session.do(("limit", word, 5))
        session.broken()
        Desk(net).say("bounds")
        self.assertEqual(before, (traffics, services, row, limits, net))

    def test_names_of_parameters(self):
        self.assertEqual(longest_wait(service=late(2, 2, 1), promise=line(3, 1, 1)), (3, 1))
        self.assertEqual(loop_gap(joint=0, to=0, system=System([flat(1)], []), promise=flat(1)), 0)
        self.assertEqual(wait_in(promise=flat(1), traffic=[1]), 0)
        self.assertRaises(TooMany, closure, curve=curve_of_text("later([0;1by1], 400)"))
        self.assertEqual(Curve(growth=1, period=1, start=[0]), line(0, 1, 1))


if __name__ == "__main__":
    unittest.main()
