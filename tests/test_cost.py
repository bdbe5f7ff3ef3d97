"""Calls 13 to 16, cost, without, better and at: what it costs, and what it would cost."""

import unittest
from fractions import Fraction

from tests.helper import (
    AT, BESIDE, BETTER, BRAESS, CIRCLE, COST, DEMAND, FLOW, LAND, ROAD, SHUT, TIME, TOLD, TOLL, TWO, WITHOUT, Seen,
    better_of, checked_cost, checked_flow, flow_of, fraction_of, last, random_lands, run, time_of,
)

NINE = [(LAND, 2, 0, 1, 1000)] + [(ROAD, 0, 1, 0, 1000 - k) for k in range(9)]
ROW = [
    (LAND, 6, 0, 5, 10), (ROAD, 0, 5, 0, 10),
    (ROAD, 0, 1, 3, 1), (ROAD, 1, 2, 3, 1), (ROAD, 2, 3, 3, 1), (ROAD, 3, 4, 3, 1), (ROAD, 4, 5, 3, 1),
]


def cost_of(calls, place):
    return fraction_of(calls, (COST, place))


def without_of(calls, number):
    """What it would cost each, or None where that's refused for want of a way."""
    told = last(calls + [(WITHOUT, number)])
    return None if told == [-4] else fraction_of(calls, (WITHOUT, number))


def at_of(calls, units):
    return fraction_of(calls, (AT, units))


class CostTest(unittest.TestCase):
    def test_braess(self):
        self.assertEqual(run(BRAESS + [(COST, v) for v in range(4)])[-4:], [[0, 1], [40, 1], [52, 1], [92, 1]])

    def test_the_source_costs_nothing(self):
        for calls in [TWO, BRAESS, CIRCLE, BESIDE] + random_lands(31, 20):
            self.assertEqual(last(calls + [(COST, calls[0][2])]), [0, 1])

    def test_the_goal_costs_what_time_tells(self):
        for calls in [TWO, BRAESS, CIRCLE, BESIDE] + random_lands(32, 40):
            self.assertEqual(cost_of(calls, calls[0][3]), time_of(calls)[0], calls)

    def test_a_place_that_nothing_goes_through(self):
        # Nobody goes by 1 to 4; whoever went there would pay the bases alone.
        calls = ROW + [(DEMAND, 1)]
        self.assertEqual(flow_of(calls), [1, 0, 0, 0, 0, 0])
        self.assertEqual([cost_of(calls, v) for v in range(6)], [0, 3, 6, 9, 12, 10])

    def test_a_place_behind_the_goal(self):
        calls = TWO[1:] + [(ROAD, 1, 2, 4, 1), (TOLL, 2, 1, 3)]
        self.assertEqual(cost_of([(LAND, 3, 0, 1, 20)] + calls, 2), 15 + 4 + Fraction(1, 3))

    def test_a_place_off_a_way_that_is_gone(self):
        # From 1, where the flow makes it dear, a road leads on to 4.
        calls = [(LAND, 5, 0, 3, 6)] + BRAESS[1:] + [(ROAD, 1, 4, 7, 1000), (ROAD, 0, 4, 48, 1)]
        self.assertEqual(cost_of(calls, 4), 47)
        self.assertEqual(cost_of(calls + [(SHUT, 5, 1)], 4), 48)

    def test_tolls_count(self):
        calls = TWO + [(TOLL, 0, 4, 1)]
        self.assertEqual(cost_of(calls, 1), 17)
        self.assertEqual(last(TWO + [(TOLL, 1, 1, 3), (COST, 1)]), [91, 6])

    def test_a_place_that_no_road_leads_to(self):
        calls = [(LAND, 4, 0, 1, 5), (ROAD, 0, 1, 0, 1), (ROAD, 2, 1, 0, 1), (ROAD, 0, 3, 0, 1), (SHUT, 2, 1)]
        told = run(calls + [(COST, 2), (COST, 3), (SHUT, 2, 0), (COST, 3)])[-4:]
        self.assertEqual(told, [[-4], [-4], [0], [0, 1]])

    def test_many_lands(self):
        apart = 0
        for calls in random_lands(33, 200):
            land = Seen(calls)
            found = land.reach(land.costs(checked_flow(calls)))
            for place in range(land.places):
                told = last(calls + [(COST, place)])
                if place in found:
                    self.assertEqual(told, [found[place].numerator, found[place].denominator], calls)
                else:
                    apart += 1
                    self.assertEqual(told, [-4], calls)
        self.assertGreater(apart, 20)


class WithoutTest(unittest.TestCase):
    def test_known_lands(self):
        self.assertEqual(run(TWO + [(WITHOUT, 0), (WITHOUT, 1)])[-2:], [[30, 1], [20, 1]])
        self.assertEqual(last(BRAESS + [(WITHOUT, 4)]), [83, 1])
        self.assertEqual(last(BESIDE + [(WITHOUT, 0)]), [8, 1])
        self.assertEqual(last(NINE + [(WITHOUT, 0)]), run(NINE + [(SHUT, 0, 1), (TIME,)])[-1][:2])

    def test_not_whole(self):
        calls = [(LAND, 2, 0, 1, 1), (ROAD, 0, 1, 0, 1), (ROAD, 0, 1, 0, 2), (ROAD, 0, 1, 0, 3)]
        self.assertEqual(run(calls + [(WITHOUT, k) for k in range(3)])[-3:], [[6, 5], [3, 4], [2, 3]])

    def test_a_road_that_is_shut_already(self):
        for calls in (BRAESS, TWO, BESIDE):
            for number in range(2):
                after = calls + [(SHUT, number, 1)]
                self.assertEqual(last(after + [(WITHOUT, number)]), last(after + [(TIME,)])[:2])
                self.assertEqual(last(after + [(WITHOUT, number)]), last(calls + [(WITHOUT, number)]))

    def test_other_roads_stay_shut(self):
        calls = BRAESS + [(SHUT, 4, 1)]
        self.assertEqual(last(calls + [(WITHOUT, 0)]), [116, 1])
        self.assertEqual(last(calls + [(WITHOUT, 0), (WITHOUT, 3)]), [116, 1])
        self.assertEqual(last(calls + [(SHUT, 0, 1), (WITHOUT, 1)]), [-4])

    def test_the_last_way(self):
        self.assertEqual(last(TWO[:2] + [(WITHOUT, 0)]), [-4])
        self.assertEqual(last(CIRCLE + [(WITHOUT, 4)]), [-4])
        self.assertEqual(last(CIRCLE + [(WITHOUT, 3)]), last(CIRCLE + [(TIME,)])[:2])

    def test_the_road_is_not_shut(self):
        told = run(BRAESS + [(TOLD,), (FLOW,), (WITHOUT, 4), (TOLD,), (FLOW,)])
        self.assertEqual(told[-5:-3], told[-2:])

    def test_tolls_stay(self):
        calls = TWO + [(TOLL, 0, 1, 2), (TOLL, 1, 7, 3)]
        self.assertEqual(run(calls + [(WITHOUT, 1), (WITHOUT, 0)])[-2:], [[41, 2], [97, 3]])

    def test_many_lands(self):
        refused = 0
        for calls in random_lands(34, 80):
            for number in range(len(Seen(calls).roads)):
                wanted = checked_cost(calls + [(SHUT, number, 1)])
                refused += wanted is None
                self.assertEqual(without_of(calls, number), wanted, (calls, number))
        self.assertGreater(refused, 20)


class BetterTest(unittest.TestCase):
    def test_the_middle_road_of_braess(self):
        self.assertEqual(last(BRAESS + [(BETTER,)]), [1, 4])

    def test_none(self):
        for calls in (TWO, BESIDE, CIRCLE, NINE, ROW, TWO[:2]):
            self.assertEqual(last(calls + [(BETTER,)]), [0])

    def test_rising(self):
        # Two roads lead across: either shut alone leaves the other, but makes it cost less.
        calls = BRAESS + [(ROAD, 1, 2, 10, 1), (ROAD, 3, 0, 0, 1)]
        self.assertEqual(better_of(calls), [4, 5])
        self.assertLess(without_of(calls, 4), checked_cost(calls))

    def test_just_as_dear_is_not_better(self):
        # Nothing is on the road across: without it all is as it was.
        calls = BRAESS[:5] + [(ROAD, 1, 2, 1000, 1)]
        self.assertEqual(better_of(calls), [])
        self.assertEqual(without_of(calls, 4), checked_cost(calls))

    def test_shut_roads(self):
        self.assertEqual(better_of(BRAESS + [(SHUT, 4, 1)]), [])
        self.assertEqual(better_of(BRAESS + [(ROAD, 1, 2, 10, 1), (SHUT, 4, 1)]), [5])
        self.assertEqual(better_of(BRAESS + [(ROAD, 0, 3, 0, 1), (SHUT, 5, 1)]), [4])

    def test_a_road_without_which_there_is_no_way_is_not_better(self):
        calls = [(LAND, 5, 0, 4, 6)] + BRAESS[1:] + [(ROAD, 3, 4, 0, 1)]
        self.assertEqual(last(calls + [(WITHOUT, 5)]), [-4])
        self.assertEqual(better_of(calls), [4])

    def test_tolls_count(self):
        self.assertEqual(better_of(BRAESS + [(TOLL, 4, 1000, 1)]), [])
        self.assertEqual(better_of(BRAESS + [(TOLL, 4, 1, 1000000)]), [4])

    def test_units_count(self):
        self.assertEqual(better_of(BRAESS + [(DEMAND, 1)]), [])
        self.assertEqual(better_of(BRAESS + [(DEMAND, 1000)]), [])

    def test_many_lands(self):
        some = 0
        across = [(0, 1), (0, 2), (1, 3), (2, 3), (1, 2)]
        lands = random_lands(35, 60)
        for units in (3, 5, 9):
            for slope in (7, 11):
                bases = (0, 40 + slope, 45, 2, 3)
                roads = [(ROAD, u, v, a, slope if a < 3 else 1) for (u, v), a in zip(across, bases)]
                lands.append([(LAND, 4, 0, 3, units)] + roads)
                lands.append(lands[-1] + [(ROAD, 0, 3, 200, 1), (ROAD, 2, 1, 0, 1), (SHUT, 5, 1)])
        for calls in lands:
            before = checked_cost(calls)
            costs = [checked_cost(calls + [(SHUT, k, 1)]) for k in range(len(Seen(calls).roads))]
            wanted = [k for k, cost in enumerate(costs) if cost is not None and cost < before]
            self.assertEqual(better_of(calls), wanted, calls)
            some += wanted != []
        self.assertGreater(some, 5)


class AtTest(unittest.TestCase):
    def test_known_lands(self):
        wanted = [[1, 1], [4, 1], [10, 1], [21, 2], [15, 1], [505, 1]]
        self.assertEqual(run(TWO + [(AT, units) for units in (1, 4, 10, 11, 20, 1000)])[-6:], wanted)
        self.assertEqual(last(BRAESS + [(AT, 6)]), [92, 1])

    def test_the_units_stay(self):
        told = run(TWO + [(TOLD,), (FLOW,), (AT, 7), (TOLD,), (FLOW,)])
        self.assertEqual(told[-5:-3], told[-2:])

    def test_shut_roads_and_tolls_count(self):
        self.assertEqual(last(TWO + [(SHUT, 0, 1), (AT, 3)]), [13, 1])
        self.assertEqual(last(TWO + [(TOLL, 0, 1, 3), (AT, 3)]), [10, 3])

    def test_fewest_and_most(self):
        for calls in (TWO, BRAESS, NINE, ROW, CIRCLE):
            for units in (1, 2, 999, 1000):
                self.assertEqual(at_of(calls, units), checked_cost(calls + [(DEMAND, units)]))

    def test_all_bases_0(self):
        """With bases 0 and no tolls it costs so much more as there are more units."""
        for calls in random_lands(36, 40, tolls=False, bases=False):
            one = at_of(calls, 1)
            for units in (2, 17, 1000):
                self.assertEqual(at_of(calls, units), units * one, calls)

    def test_the_more_units_the_dearer(self):
        """P4."""
        for calls in [TWO, BRAESS, CIRCLE] + random_lands(37, 60):
            costs = [at_of(calls, units) for units in (1, 2, 3, 30, 500, 999, 1000)]
            self.assertEqual(costs, sorted(set(costs)), calls)
            self.assertEqual(costs[-1], checked_cost(calls + [(DEMAND, 1000)]), calls)


class EmptyRoadTest(unittest.TestCase):
    def test_an_empty_road_may_be_shut(self):
        """P4: flow, time and cost answer as before."""
        seen = 0
        for calls in [TWO + [(DEMAND, 4)], CIRCLE, ROW + [(DEMAND, 1)]] + random_lands(38, 60):
            flow = flow_of(calls)
            asked = [(FLOW,), (TIME,), (COST, calls[0][3])]
            plain = run(calls + asked)[-3:]
            for number in [k for k, x in enumerate(flow) if x == 0]:
                seen += 1
                self.assertEqual(run(calls + [(SHUT, number, 1)] + asked)[-3:], plain, calls)
                self.assertEqual(last(calls + [(WITHOUT, number)]), plain[1][:2], calls)
                self.assertNotIn(number, better_of(calls))
        self.assertGreater(seen, 100)


if __name__ == "__main__":
    unittest.main()
