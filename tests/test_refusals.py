"""Which refusal comes first, that a refused call changes nothing, and that nothing is kept between lists of calls."""

import unittest

from helper import (ADD, ASSIGN, BEST, BOUND, CHECK_ASSIGNMENT, CHECK_BOUND, CHECK_MEDIAN, COUNTERS, DISTANCE, EXAMPLE,
                    HUGE, MEDIAN, REMOVE, ROW, SCHEDULE_COST, STATUS, TREE, USE, flat, last, run)
from homemoves.keeper import answers
from homemoves.reader import read_calls

# Row 7 has 3 uses, row 60 has 60 of them; there are the versions 0 to 3.
START = [(TREE, 2, EXAMPLE[0], EXAMPLE[1]), (ADD, 7, 1), (USE, 7, [3, 3, 2]), (ADD, 60, 0), (USE, 60, [2, 0] * 30)]
LOOK = [(STATUS,), (ROW, 7), (COUNTERS, 7), (ROW, 60), (COUNTERS, 60), (BEST, 7), (SCHEDULE_COST, 7, [3, 1, 2]),
        (BEST, 60), (BOUND, 7), (BOUND, 60), (CHECK_BOUND, 7, [0] * 24), (ASSIGN, [1, 0, 1, 12]),
        (MEDIAN, [1, 2, 3, 4]), (DISTANCE, 3, 2), (ROW, 5), (ADD, 5, 3)]

REFUSED = [
    ((TREE, 0, [0], [1]), -1),
    ((TREE, 21, [0], [1]), -1),
    ((TREE, 1, [1], [1]), -1),
    ((TREE, 1, [0], [101]), -1),
    ((TREE, 1, [0, 0], [1]), -1),
    ((DISTANCE, 10, 0), -1),
    ((DISTANCE, 0, 4), -4),
    ((ADD, 0, 1), -1),
    ((ADD, 5, 10), -1),
    ((ADD, 5, 4), -4),
    ((ADD, 7, 2), -6),
    ((USE, 7, [3, 3, 10]), -1),
    ((USE, 5, [3]), -3),
    ((USE, 7, [3, 3, 3, 3, 4]), -4),
    ((USE, 60, [3]), -7),
    ((USE, 7, [0] * 58), -7),
    ((ROW, 10000), -1),
    ((ROW, 5), -3),
    ((COUNTERS, 0), -1),
    ((COUNTERS, 5), -3),
    ((SCHEDULE_COST, 7, [0, 0, -1]), -1),
    ((SCHEDULE_COST, 5, [0]), -3),
    ((SCHEDULE_COST, 7, [0, 0, 4]), -4),
    ((SCHEDULE_COST, 7, [0, 0]), -5),
    ((BEST, -1), -1),
    ((BEST, 5), -3),
    ((BOUND, 10000), -1),
    ((BOUND, 5), -3),
    ((CHECK_BOUND, 0, [0] * 24), -1),
    ((CHECK_BOUND, 7, [10 ** 9 + 1] * 24), -1),
    ((CHECK_BOUND, 5, [0] * 24), -3),
    ((CHECK_BOUND, 7, [0] * 23), -5),
    ((MEDIAN, [0, 0, 0, 1001]), -1),
    ((MEDIAN, [0, 0, 0]), -5),
    ((CHECK_MEDIAN, 10, [0] * 4), -1),
    ((CHECK_MEDIAN, 0, [0, -1, 0, 0]), -1),
    ((CHECK_MEDIAN, 4, [0] * 4), -4),
    ((CHECK_MEDIAN, 3, [0] * 5), -5),
    ((ASSIGN, [13, 0, 0, 0]), -1),
    ((ASSIGN, [12, 0, 0]), -5),
    ((ASSIGN, [1, 0, 0, 0]), -8),
    ((CHECK_ASSIGNMENT, [12, 12, 12, -1], [0, 0], [0] * 4), -1),
    ((CHECK_ASSIGNMENT, [12] * 4, [0, 4], [0] * 4), -4),
    ((CHECK_ASSIGNMENT, [12] * 4, [0, 0, 0], [0] * 4), -5),
    ((REMOVE, 0), -1),
    ((REMOVE, 5), -3),
]


class OrderTest(unittest.TestCase):
    def test_without_a_tree(self):
        outside = [(DISTANCE, 10, 0), (DISTANCE, 0, -1), (ADD, 0, 0), (ADD, 1, 10), (USE, 10000, []), (USE, 1, [10]),
                   (USE, 1, [0] * 61), (ROW, 0), (COUNTERS, 10000), (SCHEDULE_COST, 0, []), (SCHEDULE_COST, 1, [-1]),
                   (SCHEDULE_COST, 1, [0] * 61), (BEST, 0), (ROW, HUGE), (ROW, -HUGE), (BEST, HUGE), (BOUND, 0),
                   (CHECK_BOUND, 10000, []), (CHECK_BOUND, 1, [-10 ** 9 - 1]), (MEDIAN, [1001]), (MEDIAN, [0] * 11),
                   (CHECK_MEDIAN, 10, [1]), (CHECK_MEDIAN, 0, [-1]), (ASSIGN, [13]), (ASSIGN, [0] * 11),
                   (CHECK_ASSIGNMENT, [13], [], []), (CHECK_ASSIGNMENT, [], [10], []),
                   (CHECK_ASSIGNMENT, [], [0] * 13, []), (CHECK_ASSIGNMENT, [], [], [10 ** 9 + 1]), (REMOVE, 0),
                   (REMOVE, HUGE)]
        inside = [(DISTANCE, 0, 9), (ADD, 1, 9), (USE, 1, []), (USE, 9999, [9] * 60), (ROW, 1), (COUNTERS, 9999),
                  (SCHEDULE_COST, 1, []), (SCHEDULE_COST, 1, [9]), (BEST, 1), (BOUND, 1), (CHECK_BOUND, 1, []),
                  (CHECK_BOUND, 9999, [10 ** 9] * 1200), (MEDIAN, []), (MEDIAN, [1000] * 10), (CHECK_MEDIAN, 9, []),
                  (ASSIGN, []), (ASSIGN, [12] * 10), (CHECK_ASSIGNMENT, [], [], []),
                  (CHECK_ASSIGNMENT, [12] * 10, [9] * 12, [10 ** 9] * 10), (REMOVE, 1)]
        for call in outside:
            self.assertEqual(run(call), [[-1]], call)
        for call in inside:
            self.assertEqual(run(call), [[-2]], call)
        self.assertEqual(run((TREE, 0, [], []), (ROW, 1)), [[-1], [-2]])
        self.assertEqual(run((STATUS,)), [[0, 0]])

    def test_two_errors_at_once(self):
        cases = [
            ((DISTANCE, 9, 10), -1), ((DISTANCE, -1, 9), -1),
            ((ADD, 0, 9), -1), ((ADD, 7, 10), -1), ((ADD, 7, 9), -4),
            ((USE, 5, [10]), -1), ((USE, 7, [9, 10]), -1), ((USE, 60, [10]), -1), ((USE, 60, [0] * 61), -1),
            ((USE, 5, [9]), -3), ((USE, 60, [9]), -4), ((USE, 7, [0] * 57 + [4]), -4), ((USE, 60, [0, 4]), -4),
            ((ROW, 10000), -1), ((COUNTERS, 10000), -1), ((BEST, 10000), -1),
            ((SCHEDULE_COST, 5, [10]), -1), ((SCHEDULE_COST, 7, [9, 0, 10]), -1), ((SCHEDULE_COST, 7, [10]), -1),
            ((SCHEDULE_COST, 7, [0] * 61), -1), ((SCHEDULE_COST, 5, [9]), -3), ((SCHEDULE_COST, 5, []), -3),
            ((SCHEDULE_COST, 7, [4]), -4), ((SCHEDULE_COST, 7, [0, 0, 0, 9]), -4),
            ((BOUND, 10000), -1), ((REMOVE, 10000), -1),
            ((CHECK_BOUND, 0, [0]), -1), ((CHECK_BOUND, 5, [10 ** 9 + 1]), -1),
            ((CHECK_BOUND, 7, [0, -10 ** 9 - 1]), -1), ((CHECK_BOUND, 5, []), -3), ((CHECK_BOUND, 5, [0] * 1200), -3),
            ((CHECK_BOUND, 7, [10 ** 9]), -5),
            ((MEDIAN, [1001]), -1), ((MEDIAN, [0] * 11), -1), ((MEDIAN, [0, 0, 0, 0, -1]), -1),
            ((CHECK_MEDIAN, 10, [0]), -1), ((CHECK_MEDIAN, 9, [0, 0, 0, 1001]), -1), ((CHECK_MEDIAN, 4, [-1]), -1),
            ((CHECK_MEDIAN, 4, [0]), -4), ((CHECK_MEDIAN, 9, [0] * 10), -4),
            ((ASSIGN, [13]), -1), ((ASSIGN, [0, 0, 0, -1]), -1), ((ASSIGN, [0] * 11), -1),
            ((ASSIGN, [1]), -5), ((ASSIGN, []), -5), ((ASSIGN, [0, 0, 0, 0, 1]), -5),
            ((CHECK_ASSIGNMENT, [13], [4], [0]), -1), ((CHECK_ASSIGNMENT, [0], [4, 10], [0]), -1),
            ((CHECK_ASSIGNMENT, [0], [4], [-1]), -1), ((CHECK_ASSIGNMENT, [0] * 11, [4], []), -1),
            ((CHECK_ASSIGNMENT, [0], [4] * 13, []), -1), ((CHECK_ASSIGNMENT, [0], [4], [0] * 11), -1),
            ((CHECK_ASSIGNMENT, [0], [0, 4], [0]), -4), ((CHECK_ASSIGNMENT, [0] * 4, [0, 0, 9], [0] * 4), -4),
            ((CHECK_ASSIGNMENT, [0] * 4, [4], [0] * 3), -4), ((CHECK_ASSIGNMENT, [0] * 3, [0, 0], [9] * 4), -5),
            ((CHECK_ASSIGNMENT, [0] * 4, [0, 0], [9] * 3), -5), ((CHECK_ASSIGNMENT, [0] * 4, [0], [9] * 4), -5),
        ]
        for call, code in cases:
            self.assertEqual(last(*START, call), [code], call)

    def test_taken_number_and_missing_version_with_twelve_rows(self):
        full = [(TREE, 1, [0], [1])] + [(ADD, row, 0) for row in range(1, 13)]
        for call, code in [((ADD, 13, 2), -4), ((ADD, 13, 10), -1), ((ADD, 13, 1), -6), ((ADD, 12, 1), -6)]:
            self.assertEqual(last(*full, call), [code], call)

    def test_edges_of_the_row_number_in_each_call(self):
        for row, code in [(0, -1), (10000, -1), (-7, -1), (HUGE, -1), (-HUGE, -1), (1, -3), (9999, -3)]:
            for call in [(USE, row, [0]), (ROW, row), (COUNTERS, row), (SCHEDULE_COST, row, []), (BEST, row),
                         (BOUND, row), (CHECK_BOUND, row, []), (REMOVE, row)]:
                self.assertEqual(last(*START, call), [code], call)


class NothingChangedTest(unittest.TestCase):
    def test_after_each_error(self):
        expected = run(*START, *LOOK)[len(START):]
        for call, code in REFUSED:
            told = run(*START, call, *LOOK)[len(START):]
            self.assertEqual(told, [[code]] + expected, call)

    def test_after_all_errors_together(self):
        expected = run(*START, *LOOK)[len(START):]
        for first in range(0, len(REFUSED), 16):
            told = run(*START, *[call for call, code in REFUSED[first:first + 16]], *LOOK)
            self.assertEqual(told[-len(LOOK):], expected, first)

    def test_each_kind_of_call_that_can_fail_is_among_the_errors(self):
        self.assertEqual({call[0] for call, code in REFUSED}, set(range(15)))
        self.assertEqual({code for call, code in REFUSED}, {-1, -3, -4, -5, -6, -7, -8})

    def test_a_check_that_is_not_accepted_changes_nothing(self):
        expected = run(*START, *LOOK)[len(START):]
        for call in [(CHECK_BOUND, 7, [9999] * 24), (CHECK_MEDIAN, 3, [9, 0, 0, 0]),
                     (CHECK_ASSIGNMENT, [0] * 4, [3, 3], [0] * 4), (CHECK_ASSIGNMENT, [2] * 4, [3, 1], [0] * 4)]:
            told = run(*START, call, *LOOK)[len(START):]
            self.assertEqual(told[0][:2], [0, 0], call)
            self.assertEqual(told[1:], expected, call)

    def test_a_thirteenth_row_changes_nothing(self):
        full = [(TREE, 1, [0], [1])] + [(ADD, row, 0) for row in range(1, 13)]
        self.assertEqual(run(*full, (ADD, 13, 1), (ROW, 13), (ROW, 12))[-2:], [[-3], [0, 0, 0, 0, 0, 0, 0]])

    def test_a_refused_call_without_a_tree_makes_none(self):
        told = run((TREE, 1, [0], []), (ADD, 7, 0), (ROW, 7), (TREE, 1, [0], [1]), (ROW, 7))
        self.assertEqual(told, [[-1], [-2], [-2], [0, 2], [-3]])

    def test_asking_changes_nothing(self):
        twice = run(*START, *LOOK[:-1], *LOOK[:-1])[len(START):]
        self.assertEqual(twice[:len(twice) // 2], twice[len(twice) // 2:])


class ListsOfCallsTest(unittest.TestCase):
    def test_a_second_list_begins_anew(self):
        first = answers(flat(*START, *LOOK))
        self.assertEqual(answers(flat((ROW, 7), (DISTANCE, 0, 0), (STATUS,))), [1, -2, 1, -2, 2, 0, 0])
        self.assertEqual(run((TREE, 1, [], []), (ROW, 7), (ADD, 7, 0)), [[0, 1], [-3], [0, 1]])
        self.assertEqual(answers(flat(*START, *LOOK)), first)

    def test_what_is_handed_in_stays_the_same(self):
        for first in range(0, len(REFUSED), 16):
            calls = flat(*START, *LOOK, *[call for call, code in REFUSED[first:first + 16]])
            kept = list(calls)
            answers(calls)
            self.assertEqual(calls, kept)

    def test_what_is_given_back_is_not_shared(self):
        calls = flat(*START, *LOOK)
        told = answers(calls)
        kept = list(told)
        told.clear()
        self.assertEqual(answers(calls), kept)

    def test_forty_calls_and_long_lists(self):
        long_list = [HUGE, -HUGE] * 600
        calls = [(USE, 1, long_list)] * 6 + [(TREE, 1, long_list, [])] * 5 + [(SCHEDULE_COST, 1, [])] * 29
        self.assertLessEqual(len(flat(*calls)), 16000)
        self.assertEqual(run(*calls), [[-1]] * 11 + [[-2]] * 29)
        self.assertEqual(run(*[(USE, 1, [])] * 39, (USE, 1, [1])), [[-2]] * 40)

    def test_every_call_has_its_place_in_the_list(self):
        calls = [(0, 2, [0], [4]), (1, 1, 0), (2, 7, 0), (3, 7, [1]), (4, 7), (5, 7), (6, 7, [0]), (7, 7), (8, 7),
                 (9, 7, [0, 8]), (10, [1, 1]), (11, 0, [1, 1]), (12, [1, 1]), (13, [1, 1], [], [0, 0]), (14, 7), (15,)]
        read = read_calls(flat(*calls))
        for (place, numbers, lists), call in zip(read, calls, strict=True):
            self.assertEqual((place,) + tuple(numbers) + tuple(lists), call)
        self.assertEqual(read_calls(flat(*reversed(calls)))[::-1], read)


if __name__ == "__main__":
    unittest.main()
