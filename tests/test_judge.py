"""Call 20, judge: whether numbers handed in are the flow that rests."""

import math
import random
import unittest
from fractions import Fraction

from tests.helper import (
    BESIDE, BRAESS, CIRCLE, DEMAND, LAND, ROAD, SHUT, TOLL, TWO, WAYLESS, Seen, best_of, flow_of, judge, last,
    random_lands, run,
)

MOST = 1000000000


def judged(calls, numbers, lower):
    return last(calls + [judge(numbers, lower)])


def over_one(flow):
    """The flow as whole numbers by one lower number, the least there is."""
    lower = math.lcm(*[x.denominator for x in flow])
    return [int(x * lower) for x in flow], lower


def fits(numbers, lower):
    return lower <= MOST and all(0 <= number <= MOST for number in numbers)


class RestsTest(unittest.TestCase):
    def test_known_lands(self):
        self.assertEqual(judged(BRAESS, [4, 2, 2, 4, 2], 1), [0])
        self.assertEqual(judged(TWO, [15, 5], 1), [0])
        self.assertEqual(judged(BESIDE, [3, 3, 2, 2, 2], 1), [0])
        self.assertEqual(judged(CIRCLE, [3, 0, 0, 0, 3, 0], 1), [0])

    def test_by_any_lower_number(self):
        for lower in (2, 3, 1000, 50000000):
            self.assertEqual(judged(BRAESS, [4 * lower, 2 * lower, 2 * lower, 4 * lower, 2 * lower], lower), [0])
        self.assertEqual(judged([(LAND, 2, 0, 1, 1), (ROAD, 0, 1, 0, 1)], [MOST], MOST), [0])
        halves = [(LAND, 2, 0, 1, 1), (ROAD, 0, 1, 0, 1), (ROAD, 0, 1, 0, 1)]
        self.assertEqual(judged(halves, [MOST // 2, MOST // 2], MOST), [0])

    def test_not_whole(self):
        calls = [(LAND, 2, 0, 1, 1), (ROAD, 0, 1, 0, 1), (ROAD, 0, 1, 0, 2), (ROAD, 0, 1, 0, 3)]
        self.assertEqual(judged(calls, [6, 3, 2], 11), [0])
        self.assertEqual(judged(calls, [600, 300, 200], 1100), [0])

    def test_off_by_a_thousand_millionth(self):
        calls = [(LAND, 2, 0, 1, 1), (ROAD, 0, 1, 0, 1), (ROAD, 0, 1, 0, 1)]
        half = MOST // 2
        self.assertEqual(judged(calls, [half + 1, half - 1], MOST), [3, 0])
        self.assertEqual(judged(calls, [half - 1, half + 1], MOST), [3, 1])
        self.assertEqual(judged(calls, [half, half - 1], MOST), [2, 0])

    def test_shut_roads_with_nothing_on_them(self):
        self.assertEqual(judged(BRAESS + [(SHUT, 4, 1)], [3, 3, 3, 3, 0], 1), [0])
        # The road that's shut would be far cheaper: it doesn't count.
        self.assertEqual(judged(TWO + [(SHUT, 0, 1)], [0, 20], 1), [0])

    def test_tolls_and_units_count(self):
        self.assertEqual(judged(TWO + [(TOLL, 0, 4, 1)], [13, 7], 1), [0])
        self.assertEqual(judged(TWO + [(TOLL, 0, 4, 1)], [15, 5], 1), [3, 0])
        self.assertEqual(judged(TWO + [(DEMAND, 10)], [10, 0], 1), [0])
        self.assertEqual(judged(TWO + [(DEMAND, 11)], [21, 1], 2), [0])

    def test_most_units(self):
        self.assertEqual(judged([(LAND, 2, 1, 0, 1000), (ROAD, 1, 0, 1000, 1000)], [1000], 1), [0])
        self.assertEqual(judged([(LAND, 2, 1, 0, 1000), (ROAD, 1, 0, 1000, 1000)], [MOST], 1000000), [0])

    def test_a_road_just_as_dear_may_stay_empty(self):
        self.assertEqual(judged(TWO + [(DEMAND, 10)], [10, 0], 1), [0])
        self.assertEqual(judged(TWO + [(DEMAND, 10)], [9, 1], 1), [3, 1])


class ShutTest(unittest.TestCase):
    def test_the_first_shut_road_with_something_on_it(self):
        calls = BRAESS + [(SHUT, 1, 1), (SHUT, 2, 1), (SHUT, 4, 1)]
        self.assertEqual(judged(calls, [4, 2, 2, 4, 2], 1), [1, 1])
        self.assertEqual(judged(calls, [4, 0, 2, 4, 2], 1), [1, 2])
        self.assertEqual(judged(calls, [0, 0, 0, 0, 1], MOST), [1, 4])

    def test_road_0(self):
        self.assertEqual(judged(TWO + [(SHUT, 0, 1)], [20, 0], 1), [1, 0])

    def test_before_what_comes_and_leaves(self):
        self.assertEqual(judged(TWO + [(SHUT, 1, 1)], [MOST, 1], 1), [1, 1])

    def test_without_the_shut_road_it_would_rest(self):
        self.assertEqual(judged(BRAESS + [(SHUT, 4, 1)], [4, 2, 2, 4, 2], 1), [1, 4])


class UnevenTest(unittest.TestCase):
    def test_the_first_place(self):
        self.assertEqual(judged(BRAESS, [0, 0, 0, 0, 0], 1), [2, 0])
        self.assertEqual(judged(BRAESS, [4, 2, 1, 4, 2], 1), [2, 1])
        self.assertEqual(judged(BRAESS, [4, 2, 2, 3, 2], 1), [2, 2])
        self.assertEqual(judged(BRAESS, [3, 3, 3, 4, 0], 1), [2, 2])

    def test_too_many_or_too_few(self):
        self.assertEqual(judged(TWO, [15, 6], 1), [2, 0])
        self.assertEqual(judged(TWO, [15, 4], 1), [2, 0])
        self.assertEqual(judged(TWO, [15, 5], 2), [2, 0])
        self.assertEqual(judged(TWO, [MOST, MOST], 1), [2, 0])

    def test_places_count_not_source_and_goal_first(self):
        # Source 3, goal 2: at 0 and 1 all is well in the first, not in the second.
        calls = [(LAND, 4, 3, 2, 5), (ROAD, 3, 1, 0, 1), (ROAD, 1, 2, 0, 1), (ROAD, 3, 0, 0, 1)]
        self.assertEqual(judged(calls, [5, 5, 0], 1), [0])
        self.assertEqual(judged(calls, [4, 4, 0], 1), [2, 2])
        self.assertEqual(judged(calls, [5, 4, 0], 1), [2, 1])
        self.assertEqual(judged(calls, [5, 5, 1], 1), [2, 0])

    def test_a_flow_from_goal_to_source(self):
        calls = [(LAND, 2, 0, 1, 5), (ROAD, 1, 0, 0, 1), (ROAD, 0, 1, 0, 1)]
        self.assertEqual(judged(calls, [5, 0], 1), [2, 0])
        self.assertEqual(judged(calls, [0, 5], 1), [0])

    def test_no_way(self):
        """Judge isn't refused for want of a way: nothing adds up there."""
        for calls in WAYLESS:
            land = Seen(calls)
            first = min(land.source, land.goal)
            self.assertEqual(judged(calls, [0] * len(land.roads), 1), [2, first])

    def test_an_empty_list(self):
        self.assertEqual(judged([(LAND, 2, 0, 1, 5)], [], 1), [2, 0])
        self.assertEqual(judged([(LAND, 6, 4, 2, 5)], [], MOST), [2, 2])

    def test_before_cheapest_ways(self):
        self.assertEqual(judged(TWO, [0, 21], 1), [2, 0])


class DearTest(unittest.TestCase):
    def test_known_lands(self):
        # With 3 and 3 the middle is empty and leads cheaper to 2 than road 1.
        self.assertEqual(judged(BRAESS, [3, 3, 3, 3, 0], 1), [3, 1])
        # Road 0 alone leads to 1; from there 3 costs 116, but 50 by the empty roads over 2.
        self.assertEqual(judged(BRAESS, [6, 0, 6, 0, 0], 1), [3, 2])
        # 2 costs 76 over 1 but 50 by road 1; on from there road 3 is as cheap as any.
        self.assertEqual(judged(BRAESS, [6, 0, 0, 6, 6], 1), [3, 4])
        self.assertEqual(judged(TWO, [20, 0], 1), [3, 0])
        self.assertEqual(judged(TWO, [0, 20], 1), [3, 1])

    def test_a_road_with_nothing_on_it_does_not_count(self):
        # Road 0 is dear and empty; road 2 is dear and gone.
        calls = [(LAND, 2, 0, 1, 4), (ROAD, 0, 1, 900, 1), (ROAD, 0, 1, 0, 1), (ROAD, 0, 1, 5, 1)]
        self.assertEqual(judged(calls, [0, 4, 0], 1), [0])
        self.assertEqual(judged(calls, [0, 3, 1], 1), [3, 2])

    def test_the_way_to_the_roads_end_counts_not_to_the_goal(self):
        # To 1 all go cheapest; from 1 on by the dear road.
        calls = [(LAND, 3, 0, 2, 4), (ROAD, 0, 1, 7, 9), (ROAD, 1, 2, 900, 1), (ROAD, 1, 2, 1, 1)]
        self.assertEqual(judged(calls, [4, 4, 0], 1), [3, 1])
        self.assertEqual(judged(calls, [4, 0, 4], 1), [0])

    def test_round_a_circle(self):
        self.assertEqual(judged(CIRCLE, [4, 1, 1, 0, 3, 0], 1), [3, 2])
        self.assertEqual(judged(CIRCLE, [3, 1, 0, 1, 3, 0], 1), [3, 3])
        self.assertEqual(judged(CIRCLE, [4, 0, 0, 0, 4, 1], 1), [3, 5])

    def test_round_a_circle_that_cannot_be_come_to(self):
        calls = [(LAND, 4, 0, 1, 3), (ROAD, 0, 1, 9, 1), (ROAD, 2, 3, 0, 1), (ROAD, 3, 2, 0, 1)]
        self.assertEqual(judged(calls, [3, 0, 0], 1), [0])
        self.assertEqual(judged(calls, [3, 1, 1], 1), [3, 1])
        self.assertEqual(judged(calls, [3 * MOST // 10, 1, 1], MOST // 10), [3, 1])

    def test_a_cheaper_row_over_places_nothing_goes_through(self):
        calls = [(LAND, 4, 0, 3, 2), (ROAD, 0, 3, 9, 1), (ROAD, 0, 1, 1, 1), (ROAD, 1, 2, 1, 1), (ROAD, 2, 3, 1, 1)]
        self.assertEqual(judged(calls, [2, 0, 0, 0], 1), [3, 0])
        self.assertEqual(judged(calls, [0, 2, 2, 2], 1), [0])


class ManyLandsTest(unittest.TestCase):
    def test_the_flow_that_rests_and_others(self):
        """P1: only that flow is so."""
        rng = random.Random(51)
        told = {0: 0, 1: 0, 2: 0, 3: 0}
        for calls in random_lands(52, 250):
            land = Seen(calls)
            flow = flow_of(calls)
            numbers, lower = over_one(flow)
            if not fits(numbers, lower):
                continue
            self.assertEqual(judged(calls, numbers, lower), [0], calls)
            ways = land.ways()
            others = [land.mixed(ways, [rng.randint(0, 2) for way in ways[1:]] + [1]) for k in range(4)]
            others += [[(x + y) / 2 for x, y in zip(flow, others[0])], best_of(calls)[0]]
            others += [[rng.choice([x, x, x, x + 1]) for x in flow] for k in range(4)]
            others += [[Fraction(rng.randint(0, 3)) for x in flow]]
            for other in others:
                numbers, lower = over_one(other)
                if not fits(numbers, lower):
                    continue
                answer = judged(calls, numbers, lower)
                self.assertEqual(answer, land.judged(other), (calls, other))
                self.assertEqual(answer == [0], other == flow, calls)
                told[answer[0]] += 1
        self.assertTrue(all(count > 20 for count in told.values()), told)

    def test_judging_changes_nothing(self):
        numbers = [[4, 2, 2, 4, 2], [3, 3, 3, 3, 0], [0] * 5, [MOST] * 5]
        told = run(BRAESS + [judge(row, 1) for row in numbers + numbers])[len(BRAESS):]
        self.assertEqual(told, [[0], [3, 1], [2, 0], [2, 0]] * 2)


if __name__ == "__main__":
    unittest.main()
