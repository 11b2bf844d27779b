"""Both example requests of the document, whole, call by call."""

import unittest

from helper import (ADD, ASSIGN, BEST, BOUND, CHECK_ASSIGNMENT, CHECK_BOUND, CHECK_MEDIAN, COUNTERS, DISTANCE, MEDIAN,
                    REMOVE, ROW, SCHEDULE_COST, STATUS, TREE, USE, run)
from homemoves.keeper import answers

VALUES = [6, 0, 6, 3, 6, 6, 6, 9, 6, 12, 10, 0, 10, 0, 10, 0, 10, 0, 10, 0, 4, 0, 4, 2, 4, 4, 4, 6, 4, 8]
THIRTEEN = [6, 0, 6, 3, 6, 6, 6, 9, 6, 13] + VALUES[10:]
SEVEN_FIRST = [7] + VALUES[1:]
LOW_THIRTEENTH = VALUES[:12] + [-20] + VALUES[13:]

FIRST = [
    ((STATUS,), [0, 0]),
    ((ADD, 7, 0), [-2]),
    ((TREE, 2, [0, 0, 1], [3, 5, 2]), [0, 4]),
    ((DISTANCE, 3, 2), [0, 10, 4, 3, 1, 0, 2]),
    ((ADD, 7, 0), [0, 1]),
    ((COUNTERS, 7), [0, 6, 0, -2, 0, -2, 0, -2]),
    ((USE, 7, [3]), [0, 5, 0, 0]),
    ((USE, 7, [3, 3, 3]), [0, 25, 1, 3]),
    ((COUNTERS, 7), [0, 6, 1, 2, 0, -2, 1, 2]),
    ((ROW, 7), [0, 3, 0, 30, 1, 10, 4, 3, 3, 3, 3]),
    ((BEST, 7), [0, 10, 4, 3, 3, 3, 3]),
    ((BOUND, 7), [0, 10, 30] + VALUES),
    ((CHECK_BOUND, 7, VALUES), [0, 1, 10]),
    ((CHECK_BOUND, 7, THIRTEEN), [0, 0, 1, 4, 3]),
    ((CHECK_BOUND, 7, SEVEN_FIRST), [0, 0, 1, 0, 1]),
    ((CHECK_BOUND, 7, LOW_THIRTEENTH), [0, 0, 2, 1, 4]),
    ((CHECK_BOUND, 7, [0] * 30), [0, 1, 0]),
    ((CHECK_BOUND, 7, [1]), [-5]),
    ((SCHEDULE_COST, 7, [0, 1, 1, 3]), [0, 19]),
    ((SCHEDULE_COST, 7, [3]), [-5]),
    ((USE, 7, [2, 2, 2, 2]), [0, 60, 1, 2]),
    ((BEST, 7), [0, 30, 8, 0, 0, 0, 0, 2, 2, 2, 2]),
    ((ROW, 7), [0, 2, 0, 90, 2, 30, 8, 3, 3, 3, 3, 2, 2, 2, 2]),
]

SECOND = [
    ((TREE, 2, [0, 0, 1], [3, 5, 2]), [0, 4]),
    ((MEDIAN, [1, 0, 0, 1]), [0, 0, 5]),
    ((CHECK_MEDIAN, 1, [1, 0, 0, 1]), [0, 1]),
    ((CHECK_MEDIAN, 2, [1, 0, 0, 1]), [0, 0, 0, 2]),
    ((MEDIAN, [1]), [-5]),
    ((ADD, 7, 0), [0, 1]),
    ((USE, 7, [3, 3, 3, 3, 2, 2, 2, 2]), [0, 90, 2, 2]),
    ((ADD, 8, 1), [0, 2]),
    ((USE, 8, [1, 1]), [0, 0, 0, 1]),
    ((ADD, 5, 2), [0, 3]),
    ((USE, 5, [0]), [0, 5, 0, 2]),
    ((STATUS,), [0, 4, 2, 3, 5, 2, 1, 7, 2, 8, 8, 1, 2]),
    ((ASSIGN, [1, 1, 1, 0]), [0, 40, 3, 0, 2, 1, 4, 0, 0, 0, 0]),
    ((ASSIGN, [0, 1, 1, 1]), [0, 45, 3, 2, 3, 1, 4, 5, 2, 0, 0]),
    ((CHECK_ASSIGNMENT, [0, 1, 1, 1], [2, 3, 1], [5, 2, 0, 0]), [0, 1, 45]),
    ((CHECK_ASSIGNMENT, [0, 1, 1, 1], [3, 2, 1], [5, 2, 0, 0]), [0, 1, 45]),
    ((CHECK_ASSIGNMENT, [0, 1, 1, 1], [1, 2, 3], [5, 2, 0, 0]), [0, 0, 3, 2]),
    ((CHECK_ASSIGNMENT, [0, 1, 1, 1], [1, 1, 2], [5, 2, 0, 0]), [0, 0, 1, 1]),
    ((CHECK_ASSIGNMENT, [0, 2, 1, 1], [2, 3, 1], [5, 2, 0, 0]), [0, 0, 2, 1]),
    ((CHECK_ASSIGNMENT, [0, 1, 1, 1], [2, 3, 1], [5, 2, 1, 0]), [0, 0, 3, 0]),
    ((ASSIGN, [1, 1, 0, 0]), [-8]),
    ((ASSIGN, [1]), [-5]),
    ((REMOVE, 8), [0, 2]),
    ((ROW, 8), [-3]),
    ((ADD, 7, 1), [-6]),
    ((ADD, 9, 4), [-4]),
    ((USE, 7, [4]), [-4]),
    ((TREE, 0, [], []), [-1]),
    ((TREE, 1, [], []), [0, 1]),
    ((ADD, 1, 0), [0, 1]),
    ((USE, 1, [0, 0]), [0, 0, 0, 0]),
    ((BOUND, 1), [0, 0, 0]),
]


class ExamplesTest(unittest.TestCase):
    def check(self, examples):
        told = run(*[call for call, answer in examples])
        for (call, answer), given in zip(examples, told):
            self.assertEqual(given, answer, call)

    def test_first_request(self):
        self.check(FIRST)

    def test_second_request(self):
        self.check(SECOND)

    def test_flat_lists_number_by_number(self):
        calls = [2, 7, 0, 0, 2, 3, 0, 0, 1, 3, 3, 5, 2, 1, 3, 2, 2, 7, 0, 5, 7, 3, 7, 1, 3, 3, 7, 0, 6, 7, 1, 0]
        self.assertEqual(answers(calls), [1, -2, 2, 0, 4, 7, 0, 10, 4, 3, 1, 0, 2, 2, 0, 1,
                                          8, 0, 6, 0, -2, 0, -2, 0, -2, 4, 0, 5, 0, 0, 4, 0, 0, 0, 0, 2, 0, 5])

    def test_one_refused_call_alone(self):
        self.assertEqual(answers([4, 7]), [1, -2])


if __name__ == "__main__":
    unittest.main()
