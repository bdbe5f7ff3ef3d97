"""Calls 1 to 7: land, road, change, toll, shut, demand, told."""

import unittest

from tests.helper import BRAESS, CHANGE, DEMAND, LAND, ROAD, SHUT, TOLD, TOLL, flow_of, last, run


class LandTest(unittest.TestCase):
    def test_a_new_land_has_no_roads(self):
        self.assertEqual(run([(LAND, 3, 2, 0, 17), (TOLD,)]), [[0], [3, 2, 0, 17, 0]])

    def test_fewest_and_most(self):
        for places in (2, 3, 4, 5, 6):
            for units in (1, 1000):
                calls = [(LAND, places, places - 1, 0, units), (TOLD,)]
                self.assertEqual(run(calls), [[0], [places, places - 1, 0, units, 0]])

    def test_a_new_land_takes_the_place_of_the_old(self):
        calls = BRAESS + [(TOLL, 1, 1, 2), (SHUT, 0, 1), (LAND, 2, 1, 0, 3), (TOLD,), (ROAD, 1, 0, 4, 5), (TOLD,)]
        told = run(calls)
        self.assertEqual(told[-4:], [[0], [2, 1, 0, 3, 0], [0], [2, 1, 0, 3, 1, 1, 0, 4, 5, 0, 1, 0]])


class RoadTest(unittest.TestCase):
    def test_roads_are_numbered_as_they_come(self):
        self.assertEqual(run(BRAESS), [[0], [0], [1], [2], [3], [4]])

    def test_told_tells_each_road(self):
        calls = [(LAND, 3, 0, 2, 9), (ROAD, 0, 1, 7, 8), (ROAD, 2, 1, 0, 1), (ROAD, 0, 1, 1000, 1000), (TOLD,)]
        expected = [3, 0, 2, 9, 3, 0, 1, 7, 8, 0, 1, 0, 2, 1, 0, 1, 0, 1, 0, 0, 1, 1000, 1000, 0, 1, 0]
        self.assertEqual(last(calls), expected)

    def test_nine_roads(self):
        calls = [(LAND, 2, 0, 1, 9)] + [(ROAD, 0, 1, k, 1) for k in range(9)]
        self.assertEqual(run(calls)[1:], [[k] for k in range(9)])
        self.assertEqual(last(calls + [(TOLD,)])[4], 9)

    def test_roads_into_the_source_and_out_of_the_goal(self):
        calls = [(LAND, 2, 0, 1, 5), (ROAD, 1, 0, 0, 1), (ROAD, 0, 1, 3, 2)]
        self.assertEqual(run(calls), [[0], [0], [1]])
        self.assertEqual(flow_of(calls), [0, 5])


class ChangeTest(unittest.TestCase):
    def test_change_sets_base_and_slope_of_that_road_alone(self):
        calls = [(LAND, 2, 0, 1, 9), (ROAD, 0, 1, 1, 2), (ROAD, 0, 1, 3, 4), (TOLL, 1, 1, 3), (SHUT, 1, 1)]
        for base, slope in ((0, 1), (1000, 1000), (5, 6)):
            self.assertEqual(
                run(calls + [(CHANGE, 1, base, slope), (TOLD,)])[-2:],
                [[0], [2, 0, 1, 9, 2, 0, 1, 1, 2, 0, 1, 0, 0, 1, base, slope, 1, 3, 1]],
            )


class TollTest(unittest.TestCase):
    def setUp(self):
        self.calls = [(LAND, 2, 0, 1, 9), (ROAD, 0, 1, 1, 2), (ROAD, 0, 1, 3, 4)]

    def toll_told(self, upper, lower):
        told = run(self.calls + [(TOLL, 1, upper, lower), (TOLD,)])
        self.assertEqual(told[-2], [0])
        self.assertEqual(told[-1][:16], [2, 0, 1, 9, 2, 0, 1, 1, 2, 0, 1, 0, 0, 1, 3, 4])
        self.assertEqual(told[-1][18:], [0])
        return told[-1][16:18]

    def test_lowest_terms(self):
        self.assertEqual(self.toll_told(6, 4), [3, 2])
        self.assertEqual(self.toll_told(7, 7), [1, 1])
        self.assertEqual(self.toll_told(0, 5), [0, 1])
        self.assertEqual(self.toll_told(12, 3), [4, 1])

    def test_a_million_above_or_below(self):
        self.assertEqual(self.toll_told(1000000, 1), [1000000, 1])
        self.assertEqual(self.toll_told(1, 1000000), [1, 1000000])
        self.assertEqual(self.toll_told(1000000, 1000000), [1, 1])
        self.assertEqual(self.toll_told(999999, 1000000), [999999, 1000000])
        self.assertEqual(self.toll_told(0, 1000000), [0, 1])

    def test_the_last_toll_holds(self):
        self.calls.append((TOLL, 1, 5, 2))
        self.assertEqual(self.toll_told(1, 3), [1, 3])

    def test_a_toll_outlasts_change_and_shut(self):
        calls = self.calls + [(TOLL, 0, 5, 2), (CHANGE, 0, 8, 9), (SHUT, 0, 1), (SHUT, 0, 0), (TOLD,)]
        self.assertEqual(last(calls)[5:12], [0, 1, 8, 9, 5, 2, 0])


class ShutTest(unittest.TestCase):
    def test_shut_and_open(self):
        calls = [(LAND, 2, 0, 1, 9), (ROAD, 0, 1, 1, 2), (ROAD, 0, 1, 3, 4)]
        shown = []
        for z in (1, 1, 0, 0):
            calls += [(SHUT, 0, z)]
            told = run(calls + [(TOLD,)])
            self.assertEqual(told[-2], [0])
            shown.append((told[-1][11], told[-1][18]))
        self.assertEqual(shown, [(1, 0), (1, 0), (0, 0), (0, 0)])


class DemandTest(unittest.TestCase):
    def test_demand(self):
        for units in (1, 2, 999, 1000):
            self.assertEqual(run(BRAESS + [(DEMAND, units)])[-1], [0])
            told = last(BRAESS + [(DEMAND, units), (TOLD,)])
            self.assertEqual(told[:5], [4, 0, 3, units, 5])
            self.assertEqual(told[5:], last(BRAESS + [(TOLD,)])[5:])


if __name__ == "__main__":
    unittest.main()
