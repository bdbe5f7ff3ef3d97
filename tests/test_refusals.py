"""What's refused, with which number, and that a refusal changes nothing."""

import unittest

from tests.helper import (
    BEST, BRAESS, CHANGE, DEMAND, FLOW, LAND, ROAD, SHUT, TIME, TOLD, TOLL, flow_of, last, run,
)

HUGE = 4294967295
ASKING = [(FLOW,), (TIME,), (BEST,)]
FULL = [(LAND, 2, 0, 1, 4)] + [(ROAD, 0, 1, k, 1) for k in range(9)]


class RefusalTest(unittest.TestCase):
    def refused(self, before, call, number):
        """The call is refused with the number alone, and told answers as it did."""
        told = run(before + [(TOLD,), call, (TOLD,)])
        self.assertEqual(told[-2], [number], call)
        self.assertEqual(told[-1], told[-3], call)

    def test_no_land(self):
        calls = [(ROAD, 0, 1, 1, 1), (CHANGE, 0, 1, 1), (TOLL, 0, 1, 1), (SHUT, 0, 1), (DEMAND, 1), (TOLD,)]
        for call in calls + ASKING:
            self.assertEqual(run([call]), [[-8]])
            self.assertEqual(run([call, call, (LAND, 2, 0, 1, 3), (TOLD,)])[2:], [[0], [2, 0, 1, 3, 0]])

    def test_no_land_comes_before_all_else(self):
        wrong = [(ROAD, 9, 9, 1001, 0), (CHANGE, 9, 1001, 0), (TOLL, 9, 1, 0), (SHUT, 9, 2), (DEMAND, 0)]
        for call in wrong:
            self.assertEqual(run([call]), [[-8]])

    def test_a_refused_land_is_no_land(self):
        self.assertEqual(run([(LAND, 7, 0, 1, 1), (TOLD,), (FLOW,)]), [[-1], [-8], [-8]])

    def test_land(self):
        wrong = [
            (0, 0, 1, 5), (1, 0, 0, 5), (1, 0, 1, 5), (7, 0, 1, 5), (HUGE, 0, 1, 5),
            (2, 2, 1, 5), (2, 0, 2, 5), (6, 6, 0, 5), (6, 0, 6, 5), (3, HUGE, 1, 5), (3, 1, HUGE, 5),
            (3, 1, 1, 5), (2, 0, 0, 5), (3, 0, 1, 0), (3, 0, 1, 1001), (3, 0, 1, HUGE), (0, 0, 0, 0),
        ]
        for given in wrong:
            self.refused(BRAESS, (LAND,) + given, -1)
            self.assertEqual(run([(LAND,) + given, (TOLD,)]), [[-1], [-8]])

    def test_road_no_such_place(self):
        for u, v in ((4, 0), (0, 4), (4, 5), (HUGE, 1), (1, HUGE), (0, 0), (3, 3), (4, 4)):
            self.refused(BRAESS, (ROAD, u, v, 1, 1), -2)

    def test_road_wrong_base_or_slope(self):
        for a, b in ((1001, 1), (HUGE, 1), (0, 0), (0, 1001), (0, HUGE), (1001, 0)):
            self.refused(BRAESS, (ROAD, 0, 1, a, b), -1)

    def test_road_after_the_ninth(self):
        self.refused(FULL, (ROAD, 0, 1, 1, 1), -5)
        self.refused(FULL, (ROAD, 1, 0, 0, 1000), -5)
        self.refused(FULL + [(SHUT, k, 1) for k in range(9)], (ROAD, 0, 1, 1, 1), -5)

    def test_road_order_of_refusals(self):
        self.refused(BRAESS, (ROAD, 4, 0, 1001, 0), -2)
        self.refused(BRAESS, (ROAD, 1, 1, 1001, 1), -2)
        self.refused(FULL, (ROAD, 0, 2, 1001, 1), -2)
        self.refused(FULL, (ROAD, 0, 0, 1, 1), -2)
        self.refused(FULL, (ROAD, 0, 1, 1001, 1), -1)
        self.refused(FULL, (ROAD, 0, 1, 0, 0), -1)

    def test_a_refused_road_takes_no_number(self):
        self.assertEqual(last(BRAESS + [(ROAD, 0, 9, 1, 1), (ROAD, 0, 1, 1, 0), (ROAD, 0, 3, 1, 1)]), [5])

    def test_change(self):
        for e in (5, 6, HUGE):
            self.refused(BRAESS, (CHANGE, e, 1, 1), -2)
            self.refused(BRAESS, (CHANGE, e, 1001, 0), -2)
        for a, b in ((1001, 1), (HUGE, 1), (0, 0), (0, 1001), (0, HUGE), (1001, 0)):
            self.refused(BRAESS, (CHANGE, 4, a, b), -1)
        self.refused([(LAND, 2, 0, 1, 1)], (CHANGE, 0, 1, 1), -2)

    def test_toll(self):
        before = BRAESS + [(TOLL, 4, 3, 7)]
        for e in (5, 6, HUGE):
            self.refused(before, (TOLL, e, 1, 1), -2)
            self.refused(before, (TOLL, e, 1000001, 0), -2)
        for p, q in ((1, 0), (0, 0), (1, 1000001), (1000001, 1), (HUGE, 1), (1, HUGE), (2000000, 2)):
            self.refused(before, (TOLL, 4, p, q), -1)
        self.refused([(LAND, 2, 0, 1, 1)], (TOLL, 0, 1, 1), -2)

    def test_shut(self):
        for before in (BRAESS, BRAESS + [(SHUT, 4, 1)]):
            for e in (5, 6, HUGE):
                for z in (0, 1, 2):
                    self.refused(before, (SHUT, e, z), -2)
            for z in (2, 3, HUGE):
                self.refused(before, (SHUT, 4, z), -1)
        self.refused([(LAND, 2, 0, 1, 1)], (SHUT, 0, 1), -2)

    def test_demand(self):
        for units in (0, 1001, HUGE):
            self.refused(BRAESS, (DEMAND, units), -1)

    def test_no_way(self):
        apart = [(LAND, 4, 0, 3, 5), (ROAD, 0, 1, 1, 1), (ROAD, 2, 3, 1, 1)]
        lands = [
            [(LAND, 2, 0, 1, 5)],
            apart,
            [(LAND, 2, 0, 1, 5), (ROAD, 1, 0, 1, 1)],
            [(LAND, 2, 0, 1, 5), (ROAD, 0, 1, 1, 1), (SHUT, 0, 1)],
            BRAESS + [(SHUT, 0, 1), (SHUT, 3, 1), (SHUT, 1, 1)],
            [(LAND, 5, 0, 4, 5), (ROAD, 0, 1, 0, 1), (ROAD, 1, 2, 0, 1), (ROAD, 2, 0, 0, 1), (ROAD, 4, 2, 0, 1)],
        ]
        for before in lands:
            for call in ASKING:
                self.refused(before, call, -4)
        self.assertEqual(flow_of(apart + [(FLOW,), (ROAD, 1, 2, 0, 1)]), [5, 5, 5])

    def test_a_shut_road_that_is_let_go_again_makes_a_way(self):
        calls = [(LAND, 2, 0, 1, 5), (ROAD, 0, 1, 1, 1), (SHUT, 0, 1), (FLOW,), (SHUT, 0, 0), (FLOW,)]
        self.assertEqual(run(calls)[3:], [[-4], [0], [1, 5, 1]])

    def test_a_new_land_forgets_the_old_ways(self):
        self.assertEqual(run(BRAESS + [(LAND, 4, 0, 3, 6), (FLOW,), (TIME,), (BEST,)])[-3:], [[-4]] * 3)

    def test_asking_changes_nothing(self):
        """P6."""
        before = BRAESS + [(TOLL, 1, 7, 3), (SHUT, 4, 1)]
        told = run(before + [(TOLD,)] + ASKING + [(TOLD,)] + ASKING + [(TOLD,)])[len(before):]
        self.assertEqual(told[0], told[4])
        self.assertEqual(told[0], told[8])
        self.assertEqual(told[1:4], told[5:8])

    def test_refusals_between_leave_the_answers(self):
        """P6."""
        refused = [
            (LAND, 1, 0, 0, 0), (ROAD, 0, 0, 0, 1), (ROAD, 0, 1, 0, 0), (CHANGE, 5, 0, 1), (CHANGE, 0, 0, 0),
            (TOLL, 5, 1, 1), (TOLL, 0, 1, 0), (SHUT, 5, 1), (SHUT, 0, 2), (DEMAND, 0),
        ]
        plain = run(BRAESS + ASKING)[-3:]
        self.assertEqual(run(BRAESS + refused + ASKING)[-3:], plain)


if __name__ == "__main__":
    unittest.main()
