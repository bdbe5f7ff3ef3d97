"""What's refused, with which number, and that a refusal changes nothing."""

import unittest

from tests.helper import (
    AT, BEST, BETTER, BRAESS, CHANGE, COST, DEMAND, FLOW, LAND, PARTS, PRICE, ROAD, SHUT, TIME, TOLD, TOLL, TOLLS,
    TWO, WAY, WAYLESS, WAYS, WITHOUT, flow_of, judge, last, run,
)

HUGE = 4294967295
MOST = 1000000000
# The calls that are refused where there's no way, as far as their numbers are right in BRAESS.
NEEDING = [(FLOW,), (TIME,), (BEST,), (PRICE,), (TOLLS,), (COST, 2), (WITHOUT, 3), (BETTER,), (AT, 9), (PARTS,)]
ASKING = NEEDING + [(WAYS,), (WAY, 1), judge([4, 2, 2, 4, 2], 1)]
FULL = [(LAND, 2, 0, 1, 4)] + [(ROAD, 0, 1, k, 1) for k in range(9)]


class RefusalTest(unittest.TestCase):
    def refused(self, before, call, number):
        """The call is refused with the number alone, and told answers as it did."""
        told = run(before + [(TOLD,), call, (TOLD,)])
        self.assertEqual(told[-2], [number], call)
        self.assertEqual(told[-1], told[-3], call)

    def test_no_land(self):
        calls = [(ROAD, 0, 1, 1, 1), (CHANGE, 0, 1, 1), (TOLL, 0, 1, 1), (SHUT, 0, 1), (DEMAND, 1), (TOLD,)]
        for call in calls + ASKING:
            self.assertEqual(run([call]), [[-8]])
            self.assertEqual(run([call, call, (LAND, 2, 0, 1, 3), (TOLD,)])[2:], [[0], [2, 0, 1, 3, 0]])

    def test_no_land_comes_before_all_else(self):
        wrong = [(ROAD, 9, 9, 1001, 0), (CHANGE, 9, 1001, 0), (TOLL, 9, 1, 0), (SHUT, 9, 2), (DEMAND, 0)]
        wrong += [(COST, 9), (WITHOUT, 9), (AT, 0), (WAY, 0), judge([], 0), judge([], 1), judge([HUGE] * 40, HUGE)]
        for call in wrong:
            self.assertEqual(run([call]), [[-8]])

    def test_a_refused_land_is_no_land(self):
        self.assertEqual(run([(LAND, 7, 0, 1, 1), (TOLD,), (FLOW,)]), [[-1], [-8], [-8]])

    def test_land(self):
        wrong = [
            (0, 0, 1, 5), (1, 0, 0, 5), (1, 0, 1, 5), (7, 0, 1, 5), (HUGE, 0, 1, 5),
            (2, 2, 1, 5), (2, 0, 2, 5), (6, 6, 0, 5), (6, 0, 6, 5), (3, HUGE, 1, 5), (3, 1, HUGE, 5),
            (3, 1, 1, 5), (2, 0, 0, 5), (3, 0, 1, 0), (3, 0, 1, 1001), (3, 0, 1, HUGE), (0, 0, 0, 0),
        ]
        for given in wrong:
            self.refused(BRAESS, (LAND,) + given, -1)
            self.assertEqual(run([(LAND,) + given, (TOLD,)]), [[-1], [-8]])

    def test_road_no_such_place(self):
        for u, v in ((4, 0), (0, 4), (4, 5), (HUGE, 1), (1, HUGE), (0, 0), (3, 3), (4, 4)):
            self.refused(BRAESS, (ROAD, u, v, 1, 1), -2)

    def test_road_wrong_base_or_slope(self):
        for a, b in ((1001, 1), (HUGE, 1), (0, 0), (0, 1001), (0, HUGE), (1001, 0)):
            self.refused(BRAESS, (ROAD, 0, 1, a, b), -1)

    def test_road_after_the_ninth(self):
        self.refused(FULL, (ROAD, 0, 1, 1, 1), -5)
        self.refused(FULL, (ROAD, 1, 0, 0, 1000), -5)
        self.refused(FULL + [(SHUT, k, 1) for k in range(9)], (ROAD, 0, 1, 1, 1), -5)

    def test_road_order_of_refusals(self):
        self.refused(BRAESS, (ROAD, 4, 0, 1001, 0), -2)
        self.refused(BRAESS, (ROAD, 1, 1, 1001, 1), -2)
        self.refused(FULL, (ROAD, 0, 2, 1001, 1), -2)
        self.refused(FULL, (ROAD, 0, 0, 1, 1), -2)
        self.refused(FULL, (ROAD, 0, 1, 1001, 1), -1)
        self.refused(FULL, (ROAD, 0, 1, 0, 0), -1)

    def test_a_refused_road_takes_no_number(self):
        self.assertEqual(last(BRAESS + [(ROAD, 0, 9, 1, 1), (ROAD, 0, 1, 1, 0), (ROAD, 0, 3, 1, 1)]), [5])

    def test_change(self):
        for e in (5, 6, HUGE):
            self.refused(BRAESS, (CHANGE, e, 1, 1), -2)
            self.refused(BRAESS, (CHANGE, e, 1001, 0), -2)
        for a, b in ((1001, 1), (HUGE, 1), (0, 0), (0, 1001), (0, HUGE), (1001, 0)):
            self.refused(BRAESS, (CHANGE, 4, a, b), -1)
        self.refused([(LAND, 2, 0, 1, 1)], (CHANGE, 0, 1, 1), -2)

    def test_toll(self):
        before = BRAESS + [(TOLL, 4, 3, 7)]
        for e in (5, 6, HUGE):
            self.refused(before, (TOLL, e, 1, 1), -2)
            self.refused(before, (TOLL, e, 1000001, 0), -2)
        for p, q in ((1, 0), (0, 0), (1, 1000001), (1000001, 1), (HUGE, 1), (1, HUGE), (2000000, 2)):
            self.refused(before, (TOLL, 4, p, q), -1)
        self.refused([(LAND, 2, 0, 1, 1)], (TOLL, 0, 1, 1), -2)

    def test_shut(self):
        for before in (BRAESS, BRAESS + [(SHUT, 4, 1)]):
            for e in (5, 6, HUGE):
                for z in (0, 1, 2):
                    self.refused(before, (SHUT, e, z), -2)
            for z in (2, 3, HUGE):
                self.refused(before, (SHUT, 4, z), -1)
        self.refused([(LAND, 2, 0, 1, 1)], (SHUT, 0, 1), -2)

    def test_demand(self):
        for units in (0, 1001, HUGE):
            self.refused(BRAESS, (DEMAND, units), -1)

    def test_cost(self):
        for v in (4, 5, HUGE):
            self.refused(BRAESS, (COST, v), -2)
        apart = [(LAND, 3, 0, 1, 5), (ROAD, 0, 1, 0, 1), (ROAD, 2, 1, 0, 1)]
        self.refused(apart, (COST, 2), -4)
        self.refused(apart + [(ROAD, 1, 2, 0, 1), (SHUT, 2, 1)], (COST, 2), -4)

    def test_without(self):
        for e in (5, 6, 9, HUGE):
            self.refused(BRAESS, (WITHOUT, e), -2)
        self.refused(TWO[:2], (WITHOUT, 0), -4)
        self.refused(TWO + [(SHUT, 1, 1)], (WITHOUT, 0), -4)
        self.refused(BRAESS + [(SHUT, 2, 1)], (WITHOUT, 3), -4)

    def test_at(self):
        for units in (0, 1001, HUGE):
            self.refused(BRAESS, (AT, units), -1)

    def test_way(self):
        for k in (3, 4, HUGE):
            self.refused(BRAESS, (WAY, k), -2)
        self.refused(BRAESS + [(SHUT, 4, 1)], (WAY, 2), -2)
        for before in WAYLESS:
            for k in (0, 1, HUGE):
                self.refused(before, (WAY, k), -2)

    def test_judge_wrong_lower_number(self):
        for q in (0, MOST + 1, HUGE):
            self.refused(BRAESS, judge([4, 2, 2, 4, 2], q), -1)
            self.refused([(LAND, 2, 0, 1, 1)], judge([], q), -1)

    def test_judge_wrong_list(self):
        for numbers in ([], [4, 2, 2, 4], [4, 2, 2, 4, 2, 0], [0] * 40):
            self.refused(BRAESS, judge(numbers, 1), -3)
            self.refused(BRAESS, judge(numbers, MOST), -3)
        for number in (MOST + 1, HUGE):
            for place in range(5):
                self.refused(BRAESS, judge([number if k == place else 0 for k in range(5)], MOST), -3)
        self.refused([(LAND, 2, 0, 1, 1)], judge([0], 1), -3)
        # One above the most is wrong, the most is not.
        self.assertEqual(last(BRAESS + [judge([MOST] * 5, 1)]), [2, 0])

    def test_judge_order_of_refusals(self):
        for numbers in ([], [HUGE], [HUGE] * 5, [0] * 40):
            self.refused(BRAESS, judge(numbers, 0), -1)
            self.refused(BRAESS, judge(numbers, MOST + 1), -1)
        # What's refused isn't judged: road 4 is shut.
        self.refused(BRAESS + [(SHUT, 4, 1)], judge([0, 0, 0, 0, MOST + 1], 1), -3)

    def test_no_way(self):
        for before in WAYLESS:
            for call in NEEDING:
                if call[0] != WITHOUT and call[0] != COST:
                    self.refused(before, call, -4)
        apart = WAYLESS[2]
        self.assertEqual(flow_of(apart + [(FLOW,), (ROAD, 1, 2, 0, 1)]), [5, 5, 5])

    def test_no_way_for_a_place_or_without_a_road(self):
        """No flow rests there, so nothing has a cost, the source and a place that can be come to among them."""
        for before in WAYLESS:
            places = before[0][1]
            roads = len([call for call in before if call[0] == ROAD])
            for v in range(places):
                self.refused(before, (COST, v), -4)
            for e in range(roads):
                self.refused(before, (WITHOUT, e), -4)

    def test_no_way_comes_last(self):
        for before in WAYLESS:
            for v in (before[0][1], 6, HUGE):
                self.refused(before, (COST, v), -2)
            for e in (len([call for call in before if call[0] == ROAD]), 9, HUGE):
                self.refused(before, (WITHOUT, e), -2)
            for units in (0, 1001, HUGE):
                self.refused(before, (AT, units), -1)

    def test_no_refusal_where_there_is_no_way(self):
        for before in WAYLESS:
            roads = len([call for call in before if call[0] == ROAD])
            self.assertEqual(run(before + [(WAYS,), judge([0] * roads, 1)])[-2:], [[0], [2, 0]])

    def test_a_shut_road_that_is_let_go_again_makes_a_way(self):
        calls = [(LAND, 2, 0, 1, 5), (ROAD, 0, 1, 1, 1), (SHUT, 0, 1), (FLOW,), (SHUT, 0, 0), (FLOW,)]
        self.assertEqual(run(calls)[3:], [[-4], [0], [1, 5, 1]])

    def test_a_new_land_forgets_the_old_ways(self):
        asked = [(FLOW,), (TIME,), (BEST,), (PRICE,), (TOLLS,), (COST, 0), (BETTER,), (AT, 1), (PARTS,)]
        self.assertEqual(run(BRAESS + [(LAND, 4, 0, 3, 6)] + asked)[-9:], [[-4]] * 9)
        self.assertEqual(run(BRAESS + [(LAND, 4, 0, 3, 6), (WITHOUT, 0), (WAYS,), (WAY, 0)])[-3:], [[-2], [0], [-2]])

    def test_asking_changes_nothing(self):
        """P6."""
        for before in (BRAESS, BRAESS + [(TOLL, 1, 7, 3), (SHUT, 4, 1)]):
            many = len(ASKING)
            told = run(before + [(TOLD,)] + ASKING + [(TOLD,)] + ASKING + [(TOLD,)])[len(before):]
            self.assertEqual(told[0], told[many + 1])
            self.assertEqual(told[0], told[2 * many + 2])
            self.assertEqual(told[1:many + 1], told[many + 2:2 * many + 2])

    def test_after_each_call_that_asks_all_is_as_before(self):
        """P6: told and flow."""
        before = BRAESS + [(TOLL, 1, 7, 3), (ROAD, 1, 2, 3, 1), (SHUT, 5, 1)]
        plain = run(before + [(TOLD,), (FLOW,)])[-2:]
        asked = NEEDING + [(COST, v) for v in range(4)] + [(WITHOUT, e) for e in range(6)] + [(AT, 1), (AT, 1000)]
        asked += [(WAYS,), (WAY, 0), (WAY, 1), (WAY, 2), judge([0] * 6, 1), judge([1] * 6, 3), judge([4, 2, 2, 4, 2, 0], 1)]
        for call in asked:
            told = run(before + [call, (TOLD,), (FLOW,)])
            self.assertEqual(told[-2:], plain, call)
            self.assertGreaterEqual(told[-3][0], 0, call)

    def test_refusals_between_leave_the_answers(self):
        """P6."""
        refused = [
            (LAND, 1, 0, 0, 0), (ROAD, 0, 0, 0, 1), (ROAD, 0, 1, 0, 0), (CHANGE, 5, 0, 1), (CHANGE, 0, 0, 0),
            (TOLL, 5, 1, 1), (TOLL, 0, 1, 0), (SHUT, 5, 1), (SHUT, 0, 2), (DEMAND, 0),
            (COST, 4), (WITHOUT, 5), (AT, 0), (AT, 1001), (WAY, 3), judge([0] * 5, 0), judge([0] * 4, 1),
        ]
        plain = run(BRAESS + ASKING + [(TOLD,)])[len(BRAESS):]
        for calls in [refused] + [[call] for call in refused]:
            told = run(BRAESS + calls + ASKING + [(TOLD,)])[len(BRAESS):]
            self.assertTrue(all(len(one) == 1 and one[0] < 0 for one in told[:len(calls)]), calls)
            self.assertEqual(told[len(calls):], plain, calls)

    def test_after_a_refusal_for_want_of_a_way_all_is_as_before(self):
        """P6."""
        for before in WAYLESS:
            asked = [call for call in NEEDING if call[0] != WITHOUT]
            told = run(before + [(TOLD,)] + asked + [(TOLD,)])
            self.assertEqual(told[len(before)], told[-1])
        told = run(TWO[:2] + [(TOLD,), (FLOW,), (WITHOUT, 0), (TOLD,), (FLOW,)])
        self.assertEqual(told[-5:-3], told[-2:])


if __name__ == "__main__":
    unittest.main()
