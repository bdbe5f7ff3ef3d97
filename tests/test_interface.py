"""How calls are handed in and answers given back."""

import contextlib
import io
import unittest

from roadrest.office import answers
from tests.helper import (
    AT, BEST, BETTER, BRAESS, CHANGE, COST, DEMAND, FLOW, JUDGE, LAND, PARTS, PRICE, ROAD, SHUT, TIME, TOLD, TOLL,
    TOLLS, WAY, WAYS, WITHOUT, flat, judge, random_lands, run, split,
)

ASKING = [
    (TOLD,), (FLOW,), (TIME,), (BEST,), (PRICE,), (TOLLS,), (COST, 1), (WITHOUT, 4), (BETTER,), (AT, 999), (WAYS,),
    (WAY, 0), (PARTS,), judge([4, 2, 2, 4, 2], 1), judge([3, 3, 3, 3, 0], 1),
]


class AnswersTest(unittest.TestCase):
    def test_how_many_then_these(self):
        calls = [1, 2, 0, 1, 7, 2, 0, 1, 3, 2, 7, 8, 9, 10, 2, 0, 0, 1, 1]
        expected = [1, 0, 1, 0]
        expected += [12, 2, 0, 1, 7, 1, 0, 1, 3, 2, 0, 1, 0]
        expected += [3, 1, 7, 1, 4, 17, 1, 119, 1, 5, 1, 7, 1, 119, 1, 1, -2]
        self.assertEqual(answers(calls), expected)

    def test_each_call_takes_its_numbers(self):
        calls = [
            (LAND, 2, 0, 1, 7), (ROAD, 0, 1, 1, 1), (CHANGE, 0, 2, 3), (TOLL, 0, 1, 2), (SHUT, 0, 1), (DEMAND, 9),
            (TOLD,), (FLOW,), (TIME,), (BEST,), (SHUT, 0, 0), (FLOW,),
        ]
        expected = [[0], [0], [0], [0], [0], [0], [2, 0, 1, 9, 1, 0, 1, 2, 3, 1, 2, 1], [-4], [-4], [-4], [0], [1, 9, 1]]
        self.assertEqual(run(calls), expected)

    def test_how_many_then_these_of_the_later_calls(self):
        calls = [1, 2, 0, 1, 20, 2, 0, 1, 0, 1, 2, 0, 1, 10, 1]
        calls += [11, 12, 13, 1, 14, 0, 15, 16, 10, 17, 18, 1, 19]
        calls += [20, 1, 2, 15, 5, 20, 2, 2, 30, 11, 20, 1, 0, 17]
        expected = [1, 0, 1, 0, 1, 1]
        expected += [2, 24, 23, 5, 2, 25, 2, 15, 2, 2, 15, 1, 2, 30, 1, 1, 0, 2, 10, 1, 1, 2]
        expected += [4, 1, 1, 15, 1, 9, 2, 15, 1, 1, 0, 5, 1, 1, 1]
        expected += [1, 0, 2, 2, 0, 1, -3, 1, 2]
        self.assertEqual(answers(calls), expected)

    def test_judge_takes_its_list(self):
        """As many as are told, refused or not, whatever the numbers look like."""
        lists = [[], [1], [20, 1, 0], [7] * 9, [4294967295] * 40]
        for numbers in lists:
            for lower in (0, 1, 20, 1000000000, 4294967295):
                call = (JUDGE, lower, len(numbers)) + tuple(numbers)
                self.assertEqual(run([call, (LAND, 2, 0, 1, 7), call, (TOLD,)])[::3], [[-8], [2, 0, 1, 7, 0]])
        self.assertEqual(run([(LAND, 2, 0, 1, 7), judge([], 1), judge([], 1), (TOLD,)])[1:3], [[2, 0], [2, 0]])

    def test_refused_calls_take_their_numbers_too(self):
        calls = [(ROAD, 7, 7, 7, 7), (CHANGE, 8, 8, 8), (TOLL, 9, 9, 9), (SHUT, 10, 10), (DEMAND, 1), (LAND, 1, 1, 1, 1)]
        self.assertEqual(run(calls + [(TOLD,)]), [[-8]] * 5 + [[-1], [-8]])
        calls = [(PRICE,), (TOLLS,), (COST, 1), (WITHOUT, 1), (BETTER,), (AT, 1), (WAYS,), (WAY, 1), (PARTS,)]
        self.assertEqual(run(calls + [(TOLD,)]), [[-8]] * 10)
        calls = [(COST, 20), (WITHOUT, 20), (AT, 0), (WAY, 20)]
        self.assertEqual(run([(LAND, 2, 0, 1, 7)] + calls + [(WAYS,)])[1:], [[-2], [-2], [-1], [-2], [0]])

    def test_four_hundred_calls(self):
        calls = BRAESS + [(TOLD,), (DEMAND, 6)] * 177 + [(FLOW,)] * 40
        told = run(calls)
        self.assertEqual(len(told), 400)
        self.assertEqual(told[-40:], [[5, 4, 1, 2, 1, 2, 1, 4, 1, 2, 1]] * 40)

    def test_many_calls_of_judge_and_ways(self):
        """These aren't among the forty."""
        told = run(BRAESS + [(WAYS,), judge([4, 2, 2, 4, 2], 1)] * 197)
        self.assertEqual(len(told), 400)
        self.assertEqual(told[6:], [[3], [0]] * 197)

    def test_what_is_handed_in_stays(self):
        for calls in [BRAESS] + random_lands(11, 20):
            handed = flat(calls + ASKING)
            before = list(handed)
            answers(handed)
            self.assertEqual(handed, before)

    def test_a_tuple_alike_is_enough(self):
        """Nothing is written into what's handed in: a value that can't be changed serves as well."""
        handed = tuple(flat(BRAESS + ASKING))
        self.assertEqual(answers(handed), answers(list(handed)))

    def test_the_same_list_answers_the_same(self):
        for calls in [BRAESS] + random_lands(12, 20):
            handed = flat(calls + ASKING)
            first = answers(handed)
            kept = list(first)
            self.assertEqual(answers(handed), kept)
            self.assertEqual(first, kept)
            self.assertIsNot(answers(handed), first)

    def test_nothing_is_kept(self):
        answers(flat(BRAESS))
        self.assertEqual(split(answers([TOLD, FLOW, WAYS, PARTS])), [[-8]] * 4)

    def test_what_is_given_back_may_be_changed(self):
        handed = flat(BRAESS + ASKING)
        first = answers(handed)
        kept = list(first)
        first.clear()
        self.assertEqual(answers(handed), kept)

    def test_nothing_is_printed(self):
        out = io.StringIO()
        with contextlib.redirect_stdout(out), contextlib.redirect_stderr(out):
            answers(flat(BRAESS + ASKING))
        self.assertEqual(out.getvalue(), "")


if __name__ == "__main__":
    unittest.main()
