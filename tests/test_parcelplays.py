"""[63]: plays of parcels, letter by letter against the plain words."""

import unittest

from worstwait.bounds import longest_wait
from worstwait.errors import BadParcels, BadStation
from worstwait.gates import gate_curve
from worstwait.measures import measured
from worstwait.parcelplays import played_parcels
from worstwait.parcels import parcel_service
from worstwait.plays import letter_waits
from worstwait.ranks import left_by_rank
from worstwait.stations import Station
from tests.plain import Case, Lots


def plain_parcels(speeds, flows):
    """Each letter by itself: its flow, its parcel, its beat."""
    waiting = [[place for place in range(len(flow))] for flow in flows]
    left = [[size for _, size in flow] for flow in flows]
    ends = [[None] * len(flow) for flow in flows]
    begun, beat = None, 0
    while any(waiting):
        for _ in range(speeds[beat % len(speeds)]):
            if begun is None:
                there = [(flow, places[0]) for flow, places in enumerate(waiting)
                         if places and flows[flow][places[0]][0] <= beat]
                if not there:
                    continue
                begun = there[0]
            flow, place = begun
            left[flow][place] -= 1
            if left[flow][place] == 0:
                ends[flow][place] = beat
                waiting[flow].remove(place)
                begun = None
        beat += 1
    return tuple(tuple(row) for row in ends)


def some_parcels(lots, most):
    flows = []
    for _ in range(1 + lots.below(4)):
        beats = sorted(lots.below(9) for _ in range(lots.below(5)))
        flows.append([(beat, 1 + lots.below(most)) for beat in beats])
    return flows


class Parcels(Case):
    def test_letter_by_letter(self):
        lots = Lots(111)
        for _ in range(400):
            speeds = [lots.below(4) for _ in range(1 + lots.below(4))]
            speeds = speeds if any(speeds) else [1]
            flows = some_parcels(lots, lots.of([1, 3, 9]))
            self.assertEqual(played_parcels(speeds, flows), plain_parcels(speeds, flows))

    def test_of_one_letter_each_it_is_ranks(self):
        lots = Lots(112)
        for _ in range(60):
            flows = some_parcels(lots, 1)
            rows = [[len([1 for one, _ in flow if one == beat]) for beat in range(60)] for flow in flows]
            waits = letter_waits(Station([1, 0, 2], ("ranks", len(flows))), rows)
            ends = played_parcels([1, 0, 2], flows)
            for flow, told, row in zip(flows, ends, waits):
                self.assertEqual([end - beat for (beat, _), end in zip(flow, told)], list(row))

    def test_by_hand(self):
        # The great parcel of the lesser rank is begun and stays together.
        self.assertEqual(played_parcels([1], [[(1, 1)], [(0, 3)]]), ((3,), (2,)))
        self.assertEqual(played_parcels([1], [[(0, 2)], [(0, 1)]]), ((1,), (2,)))
        self.assertEqual(played_parcels((0, 5), ([(0, 2), (0, 2)], [(0, 2)])), ((1, 1), (3,)))
        self.assertEqual(played_parcels([1], [[], []]), ((), ()))
        self.assertEqual(played_parcels([1000], [[(59, 60)]]), ((59,),))

    def test_no_parcel_waits_longer_than_told(self):
        lots = Lots(113)
        tight = 0
        for _ in range(150):
            speeds = [lots.below(4) for _ in range(1 + lots.below(4))]
            speeds = speeds if any(speeds) else [1]
            flows = some_parcels(lots, lots.of([1, 3, 5]))
            rows = [[sum(size for one, size in flow if one == beat) for beat in range(10)] for flow in flows]
            promises = [measured(row) for row in rows]
            phase = lots.below(len(speeds))
            ends = played_parcels(speeds[phase:] + speeds[:phase], flows)
            for place, (flow, told) in enumerate(zip(flows, ends)):
                most = max([1] + [size for other in flows[place + 1:] for _, size in other])
                service = parcel_service(gate_curve(tuple(speeds)), most)
                found = longest_wait(promises[place], left_by_rank(service, promises[:place]))
                for (beat, _), end in zip(flow, told):
                    self.assertTrue(found is None or end - beat <= found[0])
                    tight += found is not None and end - beat == found[0]
        self.assertGreater(tight, 10)

    def test_limits(self):
        self.assertEqual(played_parcels([0, 1], [[(0, 60)] * 33 + [(0, 20)]])[0][-1], 3999)
        self.too_many(4000, played_parcels, [0, 1], [[(0, 60)] * 33 + [(0, 21)]])
        self.too_many(4000, played_parcels, [1] + [0] * 59, [[(59, 60)] * 50] * 4)
        self.assertEqual(len(played_parcels([1000], [[(0, 60)] * 200])[0]), 200)

    def test_refuses(self):
        for speeds in ([], [0], [True], None, [1001], [1] * 61, 1):
            self.refuses(BadStation, played_parcels, speeds, None, part="speeds")
        for flows in (None, [], [[]] * 5, [(0, 1)], [[[0, 1]]], [[(0,)]], [[(0, 1, 1)]], [[(True, 1)]],
                      [[(0, True)]], [[(-1, 1)]], [[(60, 1)]], [[(0, 0)]], [[(0, 61)]], [[(1, 1), (0, 1)]],
                      [[(0, 1)] * 201], [[(0, 1)] * 100, [(0, 1)] * 101], [None], "a", {0: [(0, 1)]}, [[3]],
                      [[(0, 1.0)]]):
            self.refuses(BadParcels, played_parcels, [1], flows)


if __name__ == "__main__":
    unittest.main()
