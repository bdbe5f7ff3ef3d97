"""Calls 8 and 9, flow and time: the flow that rests, what it costs each and what all spend."""

import unittest
from fractions import Fraction

from tests.helper import (
    BRAESS, CHANGE, DEMAND, FLOW, LAND, ROAD, SHUT, TIME, TOLL, TWO, Seen, flow_of, last, random_lands, run, time_of,
)


class KnownLandsTest(unittest.TestCase):
    def test_one_road(self):
        calls = [(LAND, 2, 1, 0, 7), (ROAD, 1, 0, 3, 2)]
        self.assertEqual(last(calls + [(FLOW,)]), [1, 7, 1])
        self.assertEqual(last(calls + [(TIME,)]), [17, 1, 119, 1])

    def test_two_roads_side_by_side(self):
        self.assertEqual(last(TWO + [(FLOW,)]), [2, 15, 1, 5, 1])
        self.assertEqual(last(TWO + [(TIME,)]), [15, 1, 300, 1])

    def test_only_some_roads_are_used(self):
        calls = TWO + [(DEMAND, 4)]
        self.assertEqual(last(calls + [(FLOW,)]), [2, 4, 1, 0, 1])
        self.assertEqual(last(calls + [(TIME,)]), [4, 1, 16, 1])

    def test_a_road_just_as_dear_stays_empty(self):
        calls = TWO + [(DEMAND, 10)]
        self.assertEqual(flow_of(calls), [10, 0])
        self.assertEqual(time_of(calls), [10, 100])

    def test_answers_that_are_not_whole(self):
        calls = [(LAND, 2, 0, 1, 1), (ROAD, 0, 1, 0, 1), (ROAD, 0, 1, 0, 2), (ROAD, 0, 1, 0, 3)]
        self.assertEqual(last(calls + [(FLOW,)]), [3, 6, 11, 3, 11, 2, 11])
        self.assertEqual(last(calls + [(TIME,)]), [6, 11, 6, 11])

    def test_braess(self):
        self.assertEqual(last(BRAESS + [(FLOW,)]), [5, 4, 1, 2, 1, 2, 1, 4, 1, 2, 1])
        self.assertEqual(last(BRAESS + [(TIME,)]), [92, 1, 552, 1])

    def test_braess_with_the_middle_shut(self):
        calls = BRAESS + [(SHUT, 4, 1)]
        self.assertEqual(last(calls + [(FLOW,)]), [5, 3, 1, 3, 1, 3, 1, 3, 1, 0, 1])
        self.assertEqual(last(calls + [(TIME,)]), [83, 1, 498, 1])
        self.assertEqual(time_of(calls + [(SHUT, 4, 0)]), [92, 552])

    def test_tolls_change_the_flow_and_count_in_the_cost_alone(self):
        calls = TWO + [(TOLL, 0, 4, 1)]
        self.assertEqual(flow_of(calls), [13, 7])
        self.assertEqual(time_of(calls), [17, 13 * 13 + 7 * 17])
        self.assertEqual(flow_of(TWO + [(TOLL, 1, 1, 3)]), [Fraction(91, 6), Fraction(29, 6)])

    def test_change_and_demand_change_the_flow(self):
        self.assertEqual(flow_of(TWO + [(CHANGE, 1, 0, 3)]), [15, 5])
        self.assertEqual(flow_of(TWO + [(CHANGE, 1, 2, 1), (DEMAND, 5)]), [Fraction(7, 2), Fraction(3, 2)])

    def test_a_detour_over_places_nothing_goes_through(self):
        calls = [
            (LAND, 6, 0, 5, 10), (ROAD, 0, 5, 0, 10),
            (ROAD, 0, 1, 3, 1), (ROAD, 1, 2, 3, 1), (ROAD, 2, 3, 3, 1), (ROAD, 3, 4, 3, 1), (ROAD, 4, 5, 3, 1),
        ]
        self.assertEqual(flow_of(calls), [Fraction(13, 3)] + [Fraction(17, 3)] * 5)
        self.assertEqual(time_of(calls)[0], Fraction(130, 3))
        self.assertEqual(flow_of(calls + [(DEMAND, 1)]), [1, 0, 0, 0, 0, 0])

    def test_the_first_way_found_is_left_again(self):
        calls = [
            (LAND, 4, 0, 3, 2), (ROAD, 0, 1, 500, 1), (ROAD, 1, 3, 500, 1),
            (ROAD, 0, 2, 1, 1), (ROAD, 2, 3, 1, 1), (ROAD, 1, 2, 0, 1),
        ]
        self.assertEqual(flow_of(calls), [0, 0, 2, 2, 0])
        self.assertEqual(time_of(calls), [6, 12])


class EdgeTest(unittest.TestCase):
    def rests(self, calls):
        land = Seen(calls)
        flow = flow_of(calls)
        costs = land.costs(flow)
        self.assertTrue(land.adds_up(flow), calls)
        self.assertTrue(land.on_cheapest(flow, costs), calls)
        self.assertEqual(time_of(calls), [land.reach(costs)[land.goal], land.spent(flow)], calls)
        return flow

    def test_fewest_and_most_of_all(self):
        for units in (1, 1000):
            for base in (0, 1000):
                for slope in (1, 1000):
                    calls = [(LAND, 2, 0, 1, units), (ROAD, 0, 1, base, slope), (ROAD, 0, 1, 1000 - base, 1001 - slope)]
                    self.rests(calls)
                    self.assertEqual(flow_of(calls[:2]), [units])
                    self.assertEqual(time_of(calls[:2]), [base + slope * units, units * (base + slope * units)])

    def test_nine_roads_side_by_side(self):
        calls = [(LAND, 2, 0, 1, 1000)] + [(ROAD, 0, 1, 0, 1000 - k) for k in range(9)]
        flow = self.rests(calls)
        self.assertEqual([x * (1000 - k) for k, x in enumerate(flow)], [flow[0] * 1000] * 9)

    def test_nine_roads_over_six_places(self):
        pairs = [(0, 1), (0, 2), (1, 3), (2, 3), (1, 4), (2, 4), (3, 5), (4, 5), (3, 4)]
        calls = [(LAND, 6, 0, 5, 1000)]
        calls += [(ROAD, u, v, 1000 - 111 * k, 1 + 99 * k) for k, (u, v) in enumerate(pairs)]
        flow = self.rests(calls)
        self.assertTrue(any(x.denominator > 1 for x in flow))

    def test_tolls_of_a_million(self):
        self.assertEqual(self.rests(TWO + [(TOLL, 0, 1000000, 1)]), [0, 20])
        self.assertEqual(self.rests(TWO + [(TOLL, 0, 1000000, 1), (TOLL, 1, 1000000, 1)]), [15, 5])
        self.assertEqual(self.rests(TWO + [(TOLL, 0, 1000000, 1000000)]), [Fraction(29, 2), Fraction(11, 2)])
        tiny = self.rests(TWO + [(TOLL, 0, 1, 1000000)])
        self.assertEqual(tiny, [15 - Fraction(1, 2000000), 5 + Fraction(1, 2000000)])
        self.assertEqual(time_of(TWO[:2] + [(TOLL, 0, 1000000, 1)]), [1000020, 400])

    def test_many_tolls_without_a_common_divisor(self):
        calls = [(LAND, 2, 0, 1, 1000)]
        calls += [(ROAD, 0, 1, 3 * k, 1 + k) for k in range(9)]
        calls += [(TOLL, k, 1000000 - k, 999999 - 2 * k) for k in range(9)]
        self.rests(calls)

    def test_shut_roads_carry_nothing(self):
        calls = TWO + [(ROAD, 0, 1, 0, 1), (SHUT, 0, 1), (SHUT, 2, 1)]
        self.assertEqual(self.rests(calls), [0, 20, 0])
        self.assertEqual(last(calls + [(FLOW,)]), [3, 0, 1, 20, 1, 0, 1])

    def test_roads_in_a_circle(self):
        circle = [(ROAD, 0, 1, 0, 1), (ROAD, 1, 2, 0, 1), (ROAD, 2, 0, 0, 1), (ROAD, 2, 1, 0, 1), (ROAD, 1, 3, 5, 1)]
        self.assertEqual(self.rests([(LAND, 4, 0, 3, 3)] + circle), [3, 0, 0, 0, 3])
        aside = circle + [(ROAD, 0, 2, 0, 1), (ROAD, 3, 1, 0, 1), (ROAD, 3, 0, 0, 1)]
        flow = self.rests([(LAND, 4, 0, 3, 3)] + aside)
        self.assertEqual(flow, [2, 0, 0, 1, 3, 1, 0, 0])

    def test_a_circle_apart_from_all_ways(self):
        calls = [(LAND, 5, 0, 1, 3), (ROAD, 2, 3, 0, 1), (ROAD, 3, 4, 0, 1), (ROAD, 4, 2, 0, 1), (ROAD, 0, 1, 9, 1)]
        self.assertEqual(self.rests(calls), [0, 0, 0, 3])

    def test_a_land_made_anew(self):
        self.assertEqual(self.rests(BRAESS + TWO), [15, 5])
        self.assertEqual(run(TWO + BRAESS + [(FLOW,)])[-1], last(BRAESS + [(FLOW,)]))

    def test_many_lands(self):
        """P1: at rest nothing lies off a cheapest way, and what is answered adds up."""
        for calls in random_lands(1, 400):
            self.rests(calls)


class WaysTest(unittest.TestCase):
    def test_no_way_that_is_gone_costs_more_than_another(self):
        """P1."""
        for calls in random_lands(2, 150):
            land = Seen(calls)
            flow = flow_of(calls)
            costs = land.costs(flow)
            ways = land.ways()
            cheapest = min(sum(costs[k] for k in way) for way in ways)
            for way in ways:
                if all(flow[k] > 0 for k in way):
                    self.assertEqual(sum(costs[k] for k in way), cheapest)
            self.assertEqual(time_of(calls)[0], cheapest)

    def test_more_units_are_dearer(self):
        """P4."""
        for calls in random_lands(3, 60):
            costs = [time_of(calls + [(DEMAND, units)])[0] for units in (1, 2, 30, 999, 1000)]
            self.assertEqual(costs, sorted(set(costs)))

    def test_an_empty_road_may_be_shut(self):
        """P4."""
        seen = 0
        for calls in random_lands(4, 60):
            flow = flow_of(calls)
            for k in [k for k, x in enumerate(flow) if x == 0]:
                seen += 1
                self.assertEqual(run(calls + [(SHUT, k, 1), (FLOW,), (TIME,)])[-2:], run(calls + [(FLOW,), (TIME,)])[-2:])
        self.assertGreater(seen, 100)


if __name__ == "__main__":
    unittest.main()
