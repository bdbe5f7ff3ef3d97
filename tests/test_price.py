"""Calls 11 and 12, price and tolls: what rest costs beside the best, and what would make all go so."""

import unittest
from fractions import Fraction

from tests.helper import (
    BESIDE, BRAESS, CHANGE, CIRCLE, DEMAND, FLOW, LAND, PRICE, ROAD, SHUT, TOLL, TOLLS, TWO, Seen, best_of,
    checked_flow, flow_of, fraction_of, last, random_lands, time_of, tolls_of,
)


def tolled(calls, tolls):
    """The calls that set just these tolls, or None where one doesn't fit."""
    if any(max(toll.numerator, toll.denominator) > 1000000 for toll in tolls):
        return None
    return calls + [(TOLL, k, toll.numerator, toll.denominator) for k, toll in enumerate(tolls)]


def price_of(calls):
    return fraction_of(calls, (PRICE,))


class PriceTest(unittest.TestCase):
    def test_known_lands(self):
        self.assertEqual(last(TWO + [(PRICE,)]), [24, 23])
        self.assertEqual(last(BRAESS + [(PRICE,)]), [92, 83])

    def test_only_some_roads_are_used(self):
        self.assertEqual(last(TWO + [(DEMAND, 4), (PRICE,)]), [1, 1])
        self.assertEqual(last(TWO + [(DEMAND, 6), (PRICE,)]), [72, 71])

    def test_one_road(self):
        for units in (1, 1000):
            for base in (0, 1000):
                self.assertEqual(last([(LAND, 2, 0, 1, units), (ROAD, 0, 1, base, 7), (PRICE,)]), [1, 1])

    def test_shutting_the_middle_makes_rest_the_best(self):
        self.assertEqual(last(BRAESS + [(SHUT, 4, 1), (PRICE,)]), [1, 1])

    def test_tolls_change_the_flow_but_are_not_spent(self):
        # 13 and 7 are on the roads: 13 times 13 and 7 times 17 are spent.
        self.assertEqual(price_of(TWO + [(TOLL, 0, 4, 1)]), Fraction(2 * 288, 575))
        # All on the dear road.
        self.assertEqual(price_of(TWO + [(TOLL, 0, 1000000, 1)]), Fraction(2 * 600, 575))
        # The same toll on each way drives nobody off.
        self.assertEqual(price_of(TWO + [(TOLL, 0, 1000000, 1), (TOLL, 1, 1000000, 1)]), Fraction(24, 23))

    def test_change_counts(self):
        self.assertEqual(last(TWO + [(CHANGE, 1, 0, 1), (PRICE,)]), [1, 1])

    def test_roads_in_a_circle(self):
        self.assertEqual(last(CIRCLE + [(PRICE,)]), [1, 1])

    def test_nine_roads_over_six_places(self):
        pairs = [(0, 1), (0, 2), (1, 3), (2, 3), (1, 4), (2, 4), (3, 5), (4, 5), (3, 4)]
        calls = [(LAND, 6, 0, 5, 10)] + [(ROAD, u, v, 100 - 11 * k, 1 + 3 * k) for k, (u, v) in enumerate(pairs)]
        land = Seen(calls)
        self.assertEqual(price_of(calls), land.spent(checked_flow(calls)) / best_of(calls)[1])
        self.assertGreater(price_of(calls), 1)

    def test_many_lands(self):
        dear = 0
        for calls in random_lands(21, 150):
            price = price_of(calls)
            self.assertEqual(price, Seen(calls).spent(checked_flow(calls)) / best_of(calls)[1], calls)
            self.assertGreaterEqual(price, 1)
            dear += price > Fraction(4, 3)
        self.assertGreater(dear, 0)

    def test_at_most_four_thirds_without_tolls(self):
        """P3."""
        dearer = 0
        for calls in random_lands(22, 150, tolls=False):
            price = price_of(calls)
            self.assertTrue(1 <= price <= Fraction(4, 3), calls)
            dearer += price > 1
        self.assertGreater(dearer, 20)

    def test_all_bases_0(self):
        """P3."""
        for calls in random_lands(23, 100, tolls=False, bases=False):
            self.assertEqual(last(calls + [(PRICE,)]), [1, 1], calls)


class TollsTest(unittest.TestCase):
    def test_known_lands(self):
        self.assertEqual(last(TWO + [(TOLLS,)]), [2, 25, 2, 15, 2])
        self.assertEqual(last(BRAESS + [(TOLLS,)]), [5, 30, 1, 3, 1, 3, 1, 30, 1, 0, 1])
        self.assertEqual(last([(LAND, 2, 0, 1, 7), (ROAD, 0, 1, 3, 2), (TOLLS,)]), [1, 14, 1])

    def test_only_some_roads_are_used(self):
        self.assertEqual(last(TWO + [(DEMAND, 5), (TOLLS,)]), [2, 5, 1, 0, 1])
        self.assertEqual(last(TWO + [(DEMAND, 6), (TOLLS,)]), [2, 11, 2, 1, 2])

    def test_shut_roads_have_none(self):
        self.assertEqual(last(TWO + [(SHUT, 0, 1), (TOLLS,)]), [2, 0, 1, 20, 1])

    def test_several_roads_side_by_side(self):
        self.assertEqual(tolls_of(BESIDE), [3, 3, 2, 2, 2])

    def test_tolls_there_are_do_not_count(self):
        for upper, lower in ((1000000, 1), (1, 1000000), (7, 3)):
            self.assertEqual(tolls_of(BRAESS + [(TOLL, 0, upper, lower), (TOLL, 4, 1, 2)]), [30, 3, 3, 30, 0])

    def test_fewest_and_most_of_all(self):
        for units in (1, 1000):
            for slope in (1, 1000):
                self.assertEqual(tolls_of([(LAND, 2, 1, 0, units), (ROAD, 1, 0, 1000, slope)]), [slope * units])

    def test_with_the_told_tolls_all_rest_in_the_best_flow(self):
        """P2, where the tolls fit into call 4."""
        moved = 0
        fit = 0
        for calls in [TWO, BRAESS, CIRCLE, BESIDE] + random_lands(24, 300):
            best, least = best_of(calls)
            after = tolled(calls, tolls_of(calls))
            if after is None:
                continue
            fit += 1
            moved += flow_of(calls) != best
            self.assertEqual(flow_of(after), best, calls)
            self.assertEqual(time_of(after)[1], least, calls)
            self.assertEqual(last(after + [(PRICE,)]), [1, 1], calls)
            self.assertEqual(tolls_of(after), tolls_of(calls), calls)
        self.assertGreater(fit, 100)
        self.assertGreater(moved, 30)

    def test_with_the_told_tolls_the_best_flow_rests(self):
        """P2, by the tests' own reckoning, whether or not the tolls fit."""
        for calls in random_lands(25, 300):
            land = Seen(calls)
            tolls = tolls_of(calls)
            best = best_of(calls)[0]
            self.assertEqual(tolls, [road[3] * x for road, x in zip(land.roads, best)], calls)
            land.roads = [road[:4] + (toll, road[5]) for road, toll in zip(land.roads, tolls)]
            self.assertTrue(land.adds_up(best))
            self.assertTrue(land.on_cheapest(best, land.costs(best)), calls)

    def test_with_other_tolls_too_all_need_not_rest_in_it(self):
        """P2: the told tolls take the place of those there are, they don't come on top."""
        calls = TWO + [(TOLL, 0, 4, 1)]
        self.assertEqual(flow_of(calls + [(TOLL, 1, 15, 2)]), [Fraction(67, 4), Fraction(13, 4)])
        self.assertEqual(last(calls + [(TOLL, 0, 25, 2), (TOLL, 1, 15, 2), (FLOW,)]), [2, 25, 2, 15, 2])


if __name__ == "__main__":
    unittest.main()
