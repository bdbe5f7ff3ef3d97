"""The steps by which a net comes to rest, each by itself."""

import unittest

from roadrest.linear import cleared
from roadrest.ratios import common_divisor, common_multiple, less, plus, ratio, times
from roadrest.rest import Link, Load, Net, balanced, cheaper_detour, first_emptied, moved, rest, some_way


class RatiosTest(unittest.TestCase):
    def test_divisors_and_multiples(self):
        self.assertEqual([common_divisor(12, 18), common_divisor(0, 5), common_divisor(5, 0)], [6, 5, 5])
        self.assertEqual([common_multiple(4, 6), common_multiple(1, 7), common_multiple(9, 9)], [12, 7, 9])

    def test_lowest_terms(self):
        self.assertEqual([ratio(6, 4), ratio(0, 9), ratio(-6, 9), ratio(8, 2)], [(3, 2), (0, 1), (-2, 3), (4, 1)])

    def test_reckoning(self):
        self.assertEqual(plus((1, 6), (1, 3)), (1, 2))
        self.assertEqual(times((2, 3), (3, 4)), (1, 2))
        self.assertTrue(less((1, 3), (1, 2)))
        self.assertFalse(less((1, 2), (1, 3)))
        self.assertFalse(less((1, 2), (1, 2)))


class ClearedTest(unittest.TestCase):
    def test_unknowns_alone(self):
        rows = [[4, 1, 0, 6], [1, 3, 1, 10], [0, 1, 2, 8]]
        kept = [list(row) for row in rows]
        answer = cleared(rows)
        self.assertEqual(rows, kept)
        self.assertEqual([row[:3] for row in answer], [[18, 0, 0], [0, 18, 0], [0, 0, 18]])
        unknowns = [row[3] for row in answer]
        for row in rows:
            self.assertEqual(sum(factor * one for factor, one in zip(row, unknowns)), 18 * row[3])


class StepsTest(unittest.TestCase):
    def setUp(self):
        # 0 to 3 over 1 or over 2, and from 1 to 2.
        links = [Link(0, 1, 0, 10), Link(0, 2, 50, 1), Link(1, 3, 50, 1), Link(2, 3, 0, 10), Link(1, 2, 10, 1)]
        self.net = Net(4, 0, 3, 6, links)

    def test_a_load_is_kept_in_lowest_terms(self):
        load = Load([4, 0, -6], 8)
        self.assertEqual((load.amounts, load.whole), ([2, 0, -3], 4))
        self.assertEqual(load.carrying(), [0])

    def test_some_way(self):
        for number, link in enumerate(reversed([self.net.links[k] for k in some_way(self.net)])):
            self.assertEqual(link.tail, 0 if number == 0 else before)
            before = link.head
        self.assertEqual(before, 3)
        self.assertEqual(some_way(Net(4, 3, 0, 6, self.net.links)), [])
        self.assertEqual(some_way(Net(2, 0, 1, 6, [])), [])

    def test_balanced_on_the_used_links_alone(self):
        load = balanced(self.net, [0, 1, 2, 3])
        self.assertEqual((load.amounts, load.whole), ([3, 3, 3, 3, 0], 1))
        load = balanced(self.net, [0, 2])
        self.assertEqual((load.amounts, load.whole), ([6, 0, 6, 0, 0], 1))

    def test_balanced_may_be_below_0(self):
        net = Net(2, 0, 1, 2, [Link(0, 1, 0, 1), Link(0, 1, 10, 1)])
        self.assertEqual(balanced(net, [0, 1]).amounts, [6, -4])

    def test_the_link_that_is_empty_first(self):
        load = Load([4, 6, 2, 1], 1)
        self.assertEqual(first_emptied(load, Load([-2, -6, 20, 1], 1)), 1)
        self.assertEqual(first_emptied(load, Load([-6, -2, 20, 1], 1)), 0)
        self.assertEqual(first_emptied(load, Load([-4, 0, -3, 20], 1)), 2)

    def test_moved_till_a_link_is_empty(self):
        half = moved(Load([4, 6, 2, 1], 1), Load([-2, -6, 20, 1], 1))
        self.assertEqual((half.amounts, half.whole), ([1, 0, 11, 1], 1))
        other = moved(Load([1, 2], 3), Load([-1, 3], 2))
        self.assertEqual((other.amounts, other.whole), ([0, 1], 1))

    def test_detours(self):
        self.assertEqual(cheaper_detour(self.net, Load([6, 0, 6, 0, 0], 1)), [3, 1])
        self.assertEqual(cheaper_detour(self.net, Load([3, 3, 3, 3, 0], 1)), [4])
        self.assertEqual(cheaper_detour(self.net, Load([4, 2, 2, 4, 2], 1)), [])

    def test_a_detour_just_as_dear_is_none(self):
        net = Net(2, 0, 1, 10, [Link(0, 1, 0, 1), Link(0, 1, 10, 1)])
        self.assertEqual(cheaper_detour(net, Load([10, 0], 1)), [])

    def test_the_whole(self):
        load = rest(self.net)
        self.assertEqual((load.amounts, load.whole), ([4, 2, 2, 4, 2], 1))
        self.assertIsNone(rest(Net(4, 3, 0, 6, self.net.links)))


if __name__ == "__main__":
    unittest.main()
