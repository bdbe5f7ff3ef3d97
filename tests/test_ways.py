"""Calls 17 to 19, ways, way and parts: the ways in order, what they cost, and the parts of the flow."""

import unittest
from fractions import Fraction

from tests.helper import (
    BESIDE, BRAESS, CHANGE, CIRCLE, DEMAND, LAND, PARTS, ROAD, SHUT, TOLL, TWO, WAY, WAYLESS, WAYS, Seen,
    all_ways_of, checked_flow, flow_of, last, parts_of, random_lands, run, time_of, way_of,
)


class WaysTest(unittest.TestCase):
    def test_known_lands(self):
        self.assertEqual(last(TWO + [(WAYS,)]), [2])
        self.assertEqual(last(BRAESS + [(WAYS,)]), [3])
        self.assertEqual(last(BESIDE + [(WAYS,)]), [6])
        self.assertEqual(last(CIRCLE + [(WAYS,)]), [1])

    def test_none(self):
        for calls in WAYLESS:
            self.assertEqual(last(calls + [(WAYS,)]), [0])

    def test_shut_roads_are_on_no_way(self):
        self.assertEqual(all_ways_of(BRAESS + [(SHUT, 4, 1)]), [[0, 2], [1, 3]])
        self.assertEqual(all_ways_of(BRAESS + [(SHUT, 0, 1)]), [[1, 3]])
        self.assertEqual(all_ways_of(BRAESS + [(SHUT, 0, 1), (SHUT, 0, 0)]), [[0, 2], [0, 4, 3], [1, 3]])

    def test_nine_roads(self):
        self.assertEqual(last([(LAND, 2, 0, 1, 1)] + [(ROAD, 0, 1, 0, 1)] * 9 + [(WAYS,)]), [9])
        thrice = [(ROAD, u, u + 1, 0, 1) for u in (0, 1, 2) for k in range(3)]
        self.assertEqual(last([(LAND, 4, 0, 3, 1)] + thrice + [(WAYS,)]), [27])

    def test_a_way_ends_at_the_goal(self):
        # 0 to 1 is a way; 0, 1, 2 is none, and neither is 0, 2, 0, 1.
        calls = [(LAND, 3, 0, 1, 1), (ROAD, 0, 1, 0, 1), (ROAD, 1, 2, 0, 1), (ROAD, 2, 1, 0, 1), (ROAD, 2, 0, 0, 1)]
        self.assertEqual(all_ways_of(calls), [[0]])
        self.assertEqual(all_ways_of(calls + [(ROAD, 0, 2, 0, 1)]), [[0], [4, 2]])

    def test_six_places_both_to_and_fro(self):
        calls = [(LAND, 6, 5, 0, 1)]
        for u, v in ((0, 1), (1, 2), (2, 3), (3, 4)):
            calls += [(ROAD, u, v, 0, 1), (ROAD, v, u, 0, 1)]
        self.assertEqual(all_ways_of(calls + [(ROAD, 5, 4, 0, 1)]), [[8, 7, 5, 3, 1]])

    def test_flow_and_units_do_not_count(self):
        for units in (1, 4, 1000):
            self.assertEqual(last(TWO + [(DEMAND, units), (TOLL, 1, 1000000, 1), (WAYS,)]), [2])


class WayTest(unittest.TestCase):
    def test_braess(self):
        told = run(BRAESS + [(WAY, 0), (WAY, 1), (WAY, 2)])[-3:]
        self.assertEqual(told, [[2, 0, 2, 92, 1], [3, 0, 4, 3, 92, 1], [2, 1, 3, 92, 1]])

    def test_order_where_several_roads_lead_from_one_place_to_another(self):
        self.assertEqual(all_ways_of(BESIDE), [[0, 2], [0, 3], [0, 4], [1, 2], [1, 3], [1, 4]])
        turned = [(LAND, 3, 0, 2, 6), (ROAD, 1, 2, 0, 1), (ROAD, 0, 1, 0, 1), (ROAD, 1, 2, 0, 1), (ROAD, 0, 1, 0, 1)]
        self.assertEqual(all_ways_of(turned), [[1, 0], [1, 2], [3, 0], [3, 2]])

    def test_order_goes_by_the_first_road_that_differs_not_by_length(self):
        calls = [
            (LAND, 4, 0, 3, 6), (ROAD, 1, 2, 0, 1), (ROAD, 0, 1, 0, 1), (ROAD, 2, 3, 0, 1), (ROAD, 1, 3, 0, 1),
            (ROAD, 0, 3, 0, 1), (ROAD, 0, 2, 0, 1),
        ]
        self.assertEqual(all_ways_of(calls), [[1, 0, 2], [1, 3], [4], [5, 2]])

    def test_a_way_that_nothing_goes_on(self):
        calls = TWO + [(DEMAND, 4)]
        self.assertEqual(run(calls + [(WAY, 0), (WAY, 1)])[-2:], [[1, 0, 4, 1], [1, 1, 10, 1]])

    def test_a_way_that_something_goes_on_in_part(self):
        # Way 1, 2 shares its second road with the way that's gone.
        calls = [(LAND, 3, 0, 2, 3), (ROAD, 0, 1, 0, 1), (ROAD, 0, 1, 50, 1), (ROAD, 1, 2, 0, 2)]
        self.assertEqual(run(calls + [(WAY, 0), (WAY, 1)])[-2:], [[2, 0, 2, 9, 1], [2, 1, 2, 56, 1]])

    def test_tolls_and_change_count(self):
        self.assertEqual(last(TWO + [(TOLL, 1, 1000, 3), (WAY, 1)]), [1, 1, 1030, 3])
        self.assertEqual(last(TWO + [(CHANGE, 1, 1000, 1000), (WAY, 1)]), [1, 1, 1000, 1])

    def test_not_whole(self):
        calls = [(LAND, 2, 0, 1, 1), (ROAD, 0, 1, 0, 1), (ROAD, 0, 1, 0, 2), (ROAD, 0, 1, 0, 3)]
        self.assertEqual(last(calls + [(WAY, 2)]), [1, 2, 6, 11])

    def test_many_lands(self):
        """P1 too: no way that's gone costs more than another."""
        dearer = 0
        for calls in random_lands(41, 100):
            land = Seen(calls)
            flow = checked_flow(calls)
            costs = land.costs(flow)
            ways = land.ordered_ways()
            self.assertEqual(last(calls + [(WAYS,)]), [len(ways)], calls)
            cheapest = time_of(calls)[0]
            for number, way in enumerate(ways):
                self.assertEqual(way_of(calls, number), (way, sum(costs[k] for k in way)), calls)
                self.assertGreaterEqual(way_of(calls, number)[1], cheapest, calls)
                dearer += way_of(calls, number)[1] > cheapest
                if all(flow[k] > 0 for k in way):
                    self.assertEqual(way_of(calls, number)[1], cheapest, calls)
            self.assertEqual(last(calls + [(WAY, len(ways))]), [-2], calls)
        self.assertGreater(dearer, 50)


class PartsTest(unittest.TestCase):
    def test_braess(self):
        wanted = [3, 2, 1, 2, 0, 2, 2, 1, 3, 0, 4, 3, 2, 1, 2, 1, 3]
        self.assertEqual(last(BRAESS + [(PARTS,)]), wanted)

    def test_one_road(self):
        for units in (1, 1000):
            self.assertEqual(last([(LAND, 2, 0, 1, units), (ROAD, 0, 1, 3, 2), (PARTS,)]), [1, units, 1, 1, 0])

    def test_only_some_roads_are_used(self):
        self.assertEqual(last(TWO + [(PARTS,)]), [2, 15, 1, 1, 0, 5, 1, 1, 1])
        self.assertEqual(last(TWO + [(DEMAND, 4), (PARTS,)]), [1, 4, 1, 1, 0])
        self.assertEqual(last(TWO + [(DEMAND, 10), (PARTS,)]), [1, 10, 1, 1, 0])

    def test_fewer_parts_than_ways(self):
        # 3 on each of the first two roads, 2 on each of the others.
        self.assertEqual(parts_of(BESIDE), [(2, [0, 2]), (1, [0, 3]), (1, [1, 3]), (2, [1, 4])])

    def test_not_whole(self):
        calls = [(LAND, 2, 0, 1, 1), (ROAD, 0, 1, 0, 1), (ROAD, 0, 1, 0, 2), (ROAD, 0, 1, 0, 3)]
        self.assertEqual(last(calls + [(PARTS,)]), [3, 6, 11, 1, 0, 3, 11, 1, 1, 2, 11, 1, 2])

    def test_tolls_and_shut_roads_count(self):
        self.assertEqual(parts_of(TWO + [(TOLL, 0, 4, 1)]), [(13, [0]), (7, [1])])
        self.assertEqual(parts_of(TWO + [(TOLL, 1, 1, 3)]), [(Fraction(91, 6), [0]), (Fraction(29, 6), [1])])
        self.assertEqual(parts_of(BRAESS + [(SHUT, 4, 1)]), [(3, [0, 2]), (3, [1, 3])])

    def test_roads_in_a_circle(self):
        self.assertEqual(parts_of(CIRCLE), [(3, [0, 4])])
        self.assertEqual(parts_of(CIRCLE + [(ROAD, 0, 2, 0, 1)]), [(2, [0, 4]), (1, [6, 3, 4])])

    def test_all_bases_0(self):
        calls = [(LAND, 4, 0, 3, 10)] + [(ROAD, u, v, 0, 1) for u, v in ((0, 1), (0, 2), (1, 3), (2, 3), (1, 2))]
        self.assertEqual(parts_of(calls), [(5, [0, 2]), (5, [1, 3])])

    def test_parts_add_up_to_the_flow(self):
        """P5."""
        several = 0
        for calls in [TWO, BRAESS, BESIDE, CIRCLE] + random_lands(42, 200):
            land = Seen(calls)
            flow = flow_of(calls)
            parts = parts_of(calls)
            together = [sum(amount for amount, way in parts if k in way) for k in range(len(flow))]
            self.assertEqual(together, flow, calls)
            self.assertEqual(sum(amount for amount, way in parts), land.units, calls)
            self.assertTrue(all(amount > 0 for amount, way in parts), calls)
            self.assertEqual(parts, land.parts(flow), calls)
            several += len(parts) > 2
        self.assertGreater(several, 30)


if __name__ == "__main__":
    unittest.main()
