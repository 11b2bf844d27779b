"""The document's examples, as far as they use the calls 0 to 7."""

import unittest

from helper import ADD, BEST, COUNTERS, DISTANCE, ROW, SCHEDULE_COST, TREE, USE, run
from homemoves.keeper import answers

FIRST = [
    ((ADD, 7, 0), [-2]),
    ((TREE, 2, [0, 0, 1], [3, 5, 2]), [0, 4]),
    ((DISTANCE, 3, 2), [0, 10, 4, 3, 1, 0, 2]),
    ((ADD, 7, 0), [0, 1]),
    ((COUNTERS, 7), [0, 6, 0, -2, 0, -2, 0, -2]),
    ((USE, 7, [3]), [0, 5, 0, 0]),
    ((USE, 7, [3, 3, 3]), [0, 25, 1, 3]),
    ((COUNTERS, 7), [0, 6, 1, 2, 0, -2, 1, 2]),
    ((ROW, 7), [0, 3, 0, 30, 1, 10, 4, 3, 3, 3, 3]),
    ((BEST, 7), [0, 10, 4, 3, 3, 3, 3]),
    ((SCHEDULE_COST, 7, [0, 1, 1, 3]), [0, 19]),
    ((SCHEDULE_COST, 7, [3]), [-5]),
    ((USE, 7, [2, 2, 2, 2]), [0, 60, 1, 2]),
    ((BEST, 7), [0, 30, 8, 0, 0, 0, 0, 2, 2, 2, 2]),
    ((ROW, 7), [0, 2, 0, 90, 2, 30, 8, 3, 3, 3, 3, 2, 2, 2, 2]),
]

SECOND = [
    ((TREE, 2, [0, 0, 1], [3, 5, 2]), [0, 4]),
    ((ADD, 7, 0), [0, 1]),
    ((USE, 7, [3, 3, 3, 3, 2, 2, 2, 2]), [0, 90, 2, 2]),
    ((ADD, 8, 1), [0, 2]),
    ((USE, 8, [1, 1]), [0, 0, 0, 1]),
    ((ADD, 5, 2), [0, 3]),
    ((USE, 5, [0]), [0, 5, 0, 2]),
    ((ADD, 7, 1), [-6]),
    ((ADD, 9, 4), [-4]),
    ((USE, 7, [4]), [-4]),
    ((TREE, 0, [], []), [-1]),
    ((TREE, 1, [], []), [0, 1]),
    ((ADD, 1, 0), [0, 1]),
    ((USE, 1, [0, 0]), [0, 0, 0, 0]),
]


class ExamplesTest(unittest.TestCase):
    def check(self, examples):
        told = run(*[call for call, answer in examples])
        for (call, answer), given in zip(examples, told):
            self.assertEqual(given, answer, call)

    def test_first_request(self):
        self.check(FIRST)

    def test_second_request(self):
        self.check(SECOND)

    def test_flat_lists_number_by_number(self):
        calls = [2, 7, 0, 0, 2, 3, 0, 0, 1, 3, 3, 5, 2, 1, 3, 2, 2, 7, 0, 5, 7, 3, 7, 1, 3, 3, 7, 0, 6, 7, 1, 0]
        self.assertEqual(answers(calls), [1, -2, 2, 0, 4, 7, 0, 10, 4, 3, 1, 0, 2, 2, 0, 1,
                                          8, 0, 6, 0, -2, 0, -2, 0, -2, 4, 0, 5, 0, 0, 4, 0, 0, 0, 0, 2, 0, 5])

    def test_one_refused_call_alone(self):
        self.assertEqual(answers([4, 7]), [1, -2])


if __name__ == "__main__":
    unittest.main()
