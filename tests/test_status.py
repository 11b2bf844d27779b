"""The calls remove and status."""

import unittest

from helper import (ADD, COUNTERS, EXAMPLE, FACTORS, HUGE, ONE, REMOVE, ROW, SHAPES, STATUS, TREE, USE, Model, last,
                    random_uses, run, used_model)

TREE_CALL = (TREE, 2, EXAMPLE[0], EXAMPLE[1])


class RemoveTest(unittest.TestCase):
    def test_counts_the_rows_that_are_left(self):
        told = run(TREE_CALL, *[(ADD, row, 0) for row in range(1, 13)], *[(REMOVE, row) for row in range(12, 0, -1)])
        self.assertEqual(told[13:], [[0, count] for count in range(11, -1, -1)])

    def test_a_removed_row_is_gone(self):
        told = run(TREE_CALL, (ADD, 7, 0), (REMOVE, 7), (ROW, 7), (COUNTERS, 7), (USE, 7, []), (REMOVE, 7), (STATUS,))
        self.assertEqual(told[2:], [[0, 0], [-3], [-3], [-3], [-3], [0, 4, 2, 0]])

    def test_its_number_may_be_given_again_and_begins_anew(self):
        told = run(TREE_CALL, (ADD, 7, 0), (USE, 7, [3] * 9), (REMOVE, 7), (ADD, 7, 1), (ROW, 7), (COUNTERS, 7))
        self.assertEqual(told[3:6], [[0, 0], [0, 1], [0, 1, 1, 0, 0, 0, 0]])
        self.assertEqual(told[6], Model(2, EXAMPLE, 1).counter_fields())

    def test_makes_room_among_twelve_rows(self):
        full = [TREE_CALL] + [(ADD, row, 0) for row in range(1, 13)]
        told = run(*full, (ADD, 13, 0), (REMOVE, 5), (ADD, 13, 0), (ADD, 5, 0))
        self.assertEqual(told[13:], [[-6], [0, 11], [0, 12], [-6]])

    def test_other_rows_stay(self):
        rows = [(ADD, 7, 0), (USE, 7, [3] * 5), (ADD, 8, 1), (ADD, 9999, 2), (USE, 9999, [0, 1])]
        looks = [(ROW, 7), (COUNTERS, 7), (ROW, 9999), (COUNTERS, 9999)]
        told = run(TREE_CALL, *rows, *looks, (REMOVE, 8), *looks, (STATUS,))
        self.assertEqual(told[6:10], told[11:15])
        self.assertEqual(told[10], [0, 2])
        self.assertEqual(told[15], [0, 4, 2, 2, 7, 3, 5, 9999, 2, 2])

    def test_edges_of_the_row_number(self):
        start = [TREE_CALL, (ADD, 1, 0), (ADD, 9999, 0)]
        for row, answer in [(1, [0, 1]), (9999, [0, 1]), (2, [-3]), (0, [-1]), (10000, [-1]), (HUGE, [-1]),
                            (-HUGE, [-1])]:
            self.assertEqual(last(*start, (REMOVE, row)), answer, row)

    def test_without_a_tree_or_rows(self):
        self.assertEqual(run((REMOVE, 1), TREE_CALL, (REMOVE, 1)), [[-2], [0, 4], [-3]])


class StatusTest(unittest.TestCase):
    def test_no_tree(self):
        self.assertEqual(run((STATUS,)), [[0, 0]])
        self.assertEqual(run((TREE, 0, [], []), (ADD, 1, 0), (STATUS,)), [[-1], [-2], [0, 0]])

    def test_no_rows(self):
        for factor in FACTORS:
            for shape in SHAPES:
                told = last((TREE, factor, shape[0], shape[1]), (STATUS,))
                self.assertEqual(told, [0, len(shape[0]) + 1, factor, 0])

    def test_rows_in_the_order_of_their_numbers(self):
        told = last(TREE_CALL, (ADD, 300, 1), (ADD, 20, 2), (ADD, 9999, 3), (ADD, 1, 0), (STATUS,))
        self.assertEqual(told, [0, 4, 2, 4, 1, 0, 0, 20, 2, 0, 300, 1, 0, 9999, 3, 0])

    def test_twelve_rows_with_their_homes_and_uses(self):
        for factor in FACTORS:
            for number, shape in enumerate(SHAPES):
                count = len(shape[0]) + 1
                calls, expected = [], []
                for row in range(12, 0, -1):
                    uses = random_uses(100 * number + row, count, (0, 60, 7)[row % 3])
                    calls += [(ADD, row, row % count), (USE, row, uses)]
                    expected = [row, used_model(factor, shape, row % count, uses).home, len(uses)] + expected
                told = last((TREE, factor, shape[0], shape[1]), *calls, (STATUS,))
                self.assertEqual(told, [0, count, factor, 12] + expected)

    def test_after_each_change(self):
        changes = [TREE_CALL, (ADD, 7, 0), (USE, 7, [3] * 4), (USE, 7, []), (REMOVE, 7), (TREE, 5, ONE[0], ONE[1]),
                   (ADD, 2, 0), (TREE, 20, [0], [1])]
        told = run(*[call for change in changes for call in (change, (STATUS,))])
        self.assertEqual(told[1::2], [[0, 4, 2, 0], [0, 4, 2, 1, 7, 0, 0], [0, 4, 2, 1, 7, 3, 4], [0, 4, 2, 1, 7, 3, 4],
                                      [0, 4, 2, 0], [0, 1, 5, 0], [0, 1, 5, 1, 2, 0, 0], [0, 2, 20, 0]])

    def test_a_refused_tree_leaves_the_old_one(self):
        told = run(TREE_CALL, (ADD, 7, 3), (TREE, 21, [], []), (STATUS,), (TREE, 1, [0], []), (STATUS,))
        self.assertEqual(told[2:], [[-1], [0, 4, 2, 1, 7, 3, 0], [-1], [0, 4, 2, 1, 7, 3, 0]])


if __name__ == "__main__":
    unittest.main()
