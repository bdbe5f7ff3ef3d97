"""Call 10, best: the flow in which all together spend least."""

import random
import unittest
from fractions import Fraction

from tests.helper import (
    BEST, BRAESS, DEMAND, FLOW, LAND, ROAD, SHUT, TOLL, TWO, Seen, best_of, flow_of, last, random_lands, time_of,
)


class KnownLandsTest(unittest.TestCase):
    def test_one_road(self):
        self.assertEqual(last([(LAND, 2, 0, 1, 7), (ROAD, 0, 1, 3, 2), (BEST,)]), [1, 7, 1, 119, 1])

    def test_two_roads_side_by_side(self):
        self.assertEqual(last(TWO + [(BEST,)]), [2, 25, 2, 15, 2, 575, 2])

    def test_only_some_roads_are_used(self):
        self.assertEqual(last(TWO + [(DEMAND, 4), (BEST,)]), [2, 4, 1, 0, 1, 16, 1])
        self.assertEqual(last(TWO + [(DEMAND, 5), (BEST,)]), [2, 5, 1, 0, 1, 25, 1])
        self.assertEqual(last(TWO + [(DEMAND, 6), (BEST,)]), [2, 11, 2, 1, 2, 71, 2])

    def test_braess(self):
        self.assertEqual(last(BRAESS + [(BEST,)]), [5, 3, 1, 3, 1, 3, 1, 3, 1, 0, 1, 498, 1])

    def test_shut_roads_carry_nothing(self):
        self.assertEqual(last(TWO + [(SHUT, 0, 1), (BEST,)]), [2, 0, 1, 20, 1, 600, 1])

    def test_tolls_do_not_count(self):
        plain = last(BRAESS + [(BEST,)])
        for upper, lower in ((1000000, 1), (1, 1000000), (7, 3)):
            self.assertEqual(last(BRAESS + [(TOLL, 0, upper, lower), (TOLL, 4, 1, 2), (BEST,)]), plain)

    def test_fewest_and_most_of_all(self):
        for units in (1, 1000):
            for base in (0, 1000):
                for slope in (1, 1000):
                    calls = [(LAND, 2, 0, 1, units), (ROAD, 0, 1, base, slope)]
                    self.assertEqual(best_of(calls), ([units], units * (base + slope * units)))

    def test_roads_in_a_circle(self):
        calls = [
            (LAND, 4, 0, 3, 3), (ROAD, 0, 1, 0, 1), (ROAD, 1, 2, 0, 1), (ROAD, 2, 0, 0, 1), (ROAD, 2, 1, 0, 1),
            (ROAD, 1, 3, 5, 1), (ROAD, 3, 0, 0, 1),
        ]
        self.assertEqual(best_of(calls), ([3, 0, 0, 0, 3, 0], 9 + 24))


class LeastTest(unittest.TestCase):
    def test_no_other_flow_spends_less(self):
        """P2: mixtures of all ways, and small steps from the best towards them."""
        rng = random.Random(5)
        for calls in random_lands(6, 120):
            land = Seen(calls)
            best, least = best_of(calls)
            self.assertTrue(land.adds_up(best), calls)
            self.assertEqual(land.spent(best), least, calls)
            self.assertLessEqual(least, time_of(calls)[1], calls)
            ways = land.ways()
            tries = [[1 if k == one else 0 for k in range(len(ways))] for one in range(len(ways))]
            tries += [[rng.randint(0, 9) for way in ways] for k in range(10)]
            for weights in tries:
                if not any(weights):
                    continue
                other = land.mixed(ways, weights)
                for share in (Fraction(1), Fraction(1, 10), Fraction(1, 1000000)):
                    tried = [x + share * (y - x) for x, y in zip(best, other)]
                    self.assertTrue(land.adds_up(tried))
                    if tried == best:
                        continue
                    self.assertGreater(land.spent(tried), least, calls)

    def test_no_unit_could_be_sent_so_that_all_spend_less(self):
        """P2: the best flow rests by what one more unit makes all spend."""
        for calls in random_lands(7, 300):
            land = Seen(calls)
            best, least = best_of(calls)
            self.assertTrue(land.adds_up(best), calls)
            self.assertTrue(land.on_cheapest(best, land.marginals(best)), calls)
            self.assertEqual(land.spent(best), least, calls)

    def test_with_tolls_of_slope_times_the_best_all_rest_in_it(self):
        """P2, where the tolls' numbers are small enough to be set."""
        seen = 0
        for calls in random_lands(8, 300, tolls=False):
            land = Seen(calls)
            best, least = best_of(calls)
            tolls = [b * x for x, (u, v, a, b, toll, z) in zip(best, land.roads)]
            if any(max(toll.numerator, toll.denominator) > 1000000 for toll in tolls):
                continue
            seen += 1
            tolled = calls + [(TOLL, k, toll.numerator, toll.denominator) for k, toll in enumerate(tolls)]
            self.assertEqual(flow_of(tolled), best, calls)
            self.assertEqual(time_of(tolled)[1], least, calls)
            self.assertEqual(best_of(tolled), (best, least), calls)
        self.assertGreater(seen, 100)


class PriceTest(unittest.TestCase):
    def test_at_rest_at_most_four_thirds(self):
        """P3."""
        dearer = 0
        for calls in random_lands(9, 200, tolls=False):
            best, least = best_of(calls)
            spent = time_of(calls)[1]
            self.assertLessEqual(least, spent, calls)
            self.assertLessEqual(3 * spent, 4 * least, calls)
            dearer += spent > least
        self.assertGreater(dearer, 20)

    def test_close_to_four_thirds(self):
        """P3: a steep road beside one that hardly grows dear."""
        calls = [(LAND, 2, 0, 1, 1), (ROAD, 0, 1, 0, 1000), (ROAD, 0, 1, 999, 1)]
        best, least = best_of(calls)
        spent = time_of(calls)[1]
        self.assertLess(13 * least, 10 * spent)
        self.assertLessEqual(3 * spent, 4 * least)

    def test_all_bases_0(self):
        """P3: it's the same flow."""
        for calls in random_lands(10, 150, tolls=False, bases=False):
            best, least = best_of(calls)
            self.assertEqual(last(calls + [(FLOW,)])[1:], last(calls + [(BEST,)])[1:-2], calls)
            self.assertEqual(time_of(calls)[1], least, calls)


if __name__ == "__main__":
    unittest.main()
