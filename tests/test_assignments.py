"""The calls assign and check_assignment."""

import itertools
import random
import unittest

from helper import (ADD, ASSIGN, BIG_STAR, CHECK_ASSIGNMENT, EXAMPLE, HUGE, MIXED, ONE, REMOVE, SHAPES, STATUS, TREE,
                    USE, assigned, best_by_room, best_of_all_homes, checked_assignment, homes_cost, last, prices_by,
                    random_shape, random_uses, run, used_model, within)


def rows_of(uses, numbers=None):
    """Adds a row for each list of uses, with these numbers, or 1, 2, .. where there are none."""
    numbers = numbers or range(1, len(uses) + 1)
    return [call for number, versions in zip(numbers, uses, strict=True)
            for call in [(ADD, number, 0)] + ([(USE, number, versions)] if versions else [])]


def costs_of(shape, uses):
    return [used_model(1, shape, 0, versions).row_costs() for versions in uses]


def start_of(shape, uses):
    return [(TREE, 1, shape[0], shape[1])] + rows_of(uses)


def random_case(seed, most_versions, most_rows, room):
    """A tree, the uses of some rows, and limits whose sum is the number of rows and some more (the room)."""
    chance = random.Random(seed)
    shape = random_shape(seed, chance.randint(1, most_versions), chance.choice([1, 3, 100]))
    count = len(shape[0]) + 1
    uses = [random_uses(seed * 100 + row, count, chance.choice([0, 1, 2, 5]))
            for row in range(chance.randint(0, most_rows))]
    limits = [0] * count
    for place in range(len(uses) + chance.randint(0, room)):
        limits[chance.randrange(count)] += 1
    return shape, uses, [min(limit, 12) for limit in limits]


class AssignTest(unittest.TestCase):
    def check(self, shape, uses, limits, search):
        expected = assigned(search, costs_of(shape, uses), limits)
        self.assertEqual(last(*start_of(shape, uses), (ASSIGN, limits)), expected, (shape, uses, limits))
        return expected

    def test_against_a_search_over_all_assignments(self):
        with_price = 0
        for seed in range(250):
            shape, uses, limits = random_case(seed, 4, 4, seed % 4)
            told = self.check(shape, uses, limits, best_of_all_homes)
            with_price += any(price > 0 for price in told[-len(limits):])
        self.assertGreater(with_price, 50)

    def test_many_rows_and_versions(self):
        for seed in range(60):
            shape, uses, limits = random_case(seed + 1000, 10, 12, seed % 3)
            self.check(shape, uses, limits, best_by_room)

    def test_twelve_rows_in_ten_versions(self):
        for seed in range(4):
            uses = [random_uses(seed * 50 + row, 10, 3 + row) for row in range(12)]
            self.check(MIXED, uses, [1, 2, 1, 1, 1, 2, 1, 1, 1, 1], best_by_room)
            self.check(BIG_STAR, uses, [2, 1, 1, 1, 2, 1, 1, 1, 1, 2], best_by_room)
            self.check(BIG_STAR, uses, [0, 0, 12, 0, 0, 0, 0, 0, 0, 0], best_by_room)
            self.check(MIXED, uses, [12, 12, 0, 0, 0, 0, 0, 0, 0, 12], best_by_room)

    def test_twelve_rows_with_sixty_uses(self):
        uses = [random_uses(row, 10, 60) for row in range(12)]
        calls = [(TREE, 20, BIG_STAR[0], BIG_STAR[1])] + rows_of(uses)
        limits = [0, 1, 1, 2, 1, 1, 1, 1, 2, 2]
        expected = assigned(best_by_room, costs_of(BIG_STAR, uses), limits)
        self.assertEqual(last(*calls, (ASSIGN, limits)), expected)

    def test_no_rows(self):
        for shape in SHAPES:
            count = len(shape[0]) + 1
            for limit in (0, 1, 12):
                told = run((TREE, 1, shape[0], shape[1]), (ASSIGN, [limit] * count))
                self.assertEqual(told[1], [0, 0, 0, count] + [0] * count)

    def test_one_version(self):
        for row_count in (1, 11, 12):
            start = start_of(ONE, [[0, 0]] * row_count)
            self.assertEqual(last(*start, (ASSIGN, [row_count])), [0, 0, row_count] + [0] * row_count + [1, 0])
            self.assertEqual(last(*start, (ASSIGN, [12])), [0, 0, row_count] + [0] * row_count + [1, 0])
            self.assertEqual(last(*start, (ASSIGN, [row_count - 1])), [-8])

    def test_rows_without_uses_cost_nothing_anywhere(self):
        start = start_of(EXAMPLE, [[], [], []])
        self.assertEqual(last(*start, (ASSIGN, [12] * 4)), [0, 0, 3, 0, 0, 0, 4, 0, 0, 0, 0])
        self.assertEqual(last(*start, (ASSIGN, [1, 0, 1, 1])), [0, 0, 3, 0, 2, 3, 4, 0, 0, 0, 0])
        # The row with uses comes last, but the rows ahead of it leave its best home to it.
        start = start_of(EXAMPLE, [[], [], [0]])
        self.assertEqual(last(*start, (ASSIGN, [1, 1, 1, 0])), [0, 0, 3, 1, 2, 0, 4, 0, 0, 0, 0])
        # One more home in version 1 saves nothing; in version 0 it would save the way of 3.
        start = start_of(EXAMPLE, [[0], [0]])
        self.assertEqual(last(*start, (ASSIGN, [1, 1, 0, 0])), [0, 3, 2, 0, 1, 4, 3, 0, 0, 0])

    def test_limits_of_12_hold_all_rows(self):
        uses = [[version % 4] for version in range(12)]
        told = last(*start_of(EXAMPLE, uses), (ASSIGN, [12, 12, 12, 12]))
        self.assertEqual(told, [0, 0, 12] + [0, 1, 2, 3] * 3 + [4, 0, 0, 0, 0])
        told = last(*start_of(EXAMPLE, [[3]] * 12), (ASSIGN, [0, 0, 0, 12]))
        self.assertEqual(told, [0, 0, 12] + [3] * 12 + [4, 0, 0, 0, 0])
        told = last(*start_of(EXAMPLE, [[3]] * 12), (ASSIGN, [0, 0, 12, 0]))
        self.assertEqual(told, [0, 120, 12] + [2] * 12 + [4, 5, 8, 0, 10])

    def test_room_for_just_all_rows_and_one_less(self):
        start = start_of(EXAMPLE, [[0], [0, 1], [3], [2, 2], []])
        for limits in ([5, 0, 0, 0], [2, 1, 1, 1], [0, 0, 0, 5], [1, 2, 0, 2]):
            self.assertEqual(last(*start, (ASSIGN, limits))[0], 0)
            for version in range(4):
                if limits[version] > 0:
                    less = limits[:version] + [limits[version] - 1] + limits[version + 1:]
                    self.assertEqual(last(*start, (ASSIGN, less)), [-8])
        self.assertEqual(last(*start, (ASSIGN, [0, 0, 0, 0])), [-8])

    def test_the_first_of_several(self):
        # Both rows are used in the same way, so who has which home is the same: the smaller version goes to the first.
        self.assertEqual(last(*start_of(([0], [4]), [[0], [0]]), (ASSIGN, [1, 1])), [0, 4, 2, 0, 1, 2, 4, 0])
        self.assertEqual(last(*start_of(([0], [4]), [[1], [1]]), (ASSIGN, [1, 1])), [0, 4, 2, 0, 1, 2, 0, 4])
        # In the middle each home costs row 1 the same: the first one that leaves room for the best of all.
        self.assertEqual(last(*start_of(([0, 1], [2, 2]), [[0, 2], [0]]), (ASSIGN, [1, 1, 1])),
                         [0, 4, 2, 1, 0, 3, 0, 0, 0])
        for seed in range(40):
            chance = random.Random(seed)
            uses = [chance.choice([[], [0], [1], [0, 1], [1, 2], [0, 3]]) for row in range(5)]
            self.check(([0, 0, 0], [1, 1, 1]), uses, [chance.choice([1, 2, 5]) + (v == 0) for v in range(4)],
                       best_of_all_homes)

    def test_a_price_through_a_chain_of_rows(self):
        # One more home in version 0 would let all three rows move by one.
        shape = ([0, 1, 2], [7, 7, 7])
        told = last(*start_of(shape, [[0], [0], [1]]), (ASSIGN, [1, 1, 1, 0]))
        self.assertEqual(told, [0, 14, 3, 0, 1, 2, 4, 14, 7, 0, 0])

    def test_rows_in_the_order_of_their_numbers(self):
        uses = [[0], [1], [2]]
        for numbers in itertools.permutations([3, 40, 9999]):
            calls = [(TREE, 1, EXAMPLE[0], EXAMPLE[1])] + rows_of(uses, numbers)
            by_number = [versions for number, versions in sorted(zip(numbers, uses))]
            told = run(*calls, (ASSIGN, [1, 1, 1, 1]), (CHECK_ASSIGNMENT, [1] * 4, [v for (v,) in by_number], [0] * 4))
            self.assertEqual(told[-2], [0, 0, 3] + [v for (v,) in by_number] + [4, 0, 0, 0, 0])
            self.assertEqual(told[-1], [0, 1, 0])

    def test_moves_and_homes_do_not_count(self):
        # The row moved to version 3, but its fixed home is counted for all its uses, from the first one on.
        told = run((TREE, 1, EXAMPLE[0], EXAMPLE[1]), (ADD, 7, 2), (USE, 7, [2, 3, 3, 3]), (STATUS,), (ASSIGN, [1] * 4),
                   (STATUS,), (USE, 7, [1]), (ASSIGN, [12] * 4))
        self.assertEqual(told[4], [0, 10, 1, 3, 4, 0, 0, 0, 0])
        self.assertEqual(told[3], told[5])
        self.assertEqual(told[7], [0, 12, 1, 3, 4, 0, 0, 0, 0])

    def test_removed_rows_have_no_home(self):
        told = run(*start_of(EXAMPLE, [[0], [1], [2]]), (ASSIGN, [1, 1, 0, 0]), (REMOVE, 2), (ASSIGN, [1, 1, 0, 0]))
        self.assertEqual(told[-3:], [[-8], [0, 2], [0, 8, 2, 0, 1, 4, 3, 0, 8, 0]])

    def test_a_limit_for_each_version(self):
        for shape in SHAPES:
            count = len(shape[0]) + 1
            for size in range(11):
                told = last((TREE, 1, shape[0], shape[1]), (ASSIGN, [1] * size))
                self.assertEqual(told, [0, 0, 0, count] + [0] * count if size == count else [-5])

    def test_edges_of_the_limits(self):
        tree = (TREE, 1, [0], [1])
        self.assertEqual(last(tree, (ASSIGN, [0, 12])), [0, 0, 0, 2, 0, 0])
        for wrong in (-1, 13, HUGE, -HUGE):
            for limits in ([wrong, 0], [0, wrong], [wrong]):
                self.assertEqual(last(tree, (ASSIGN, limits)), [-1], limits)
        for size in (11, 1200):
            self.assertEqual(last(tree, (ASSIGN, [0] * size)), [-1], size)


class CheckAssignmentTest(unittest.TestCase):
    # What fixed homes cost the rows: [0 3 5 5], [3 0 8 2], [10 16 0 20].
    USES = [[0], [1], [2, 2]]

    def asked(self, limits, homes, prices):
        told = last(*start_of(EXAMPLE, self.USES), (CHECK_ASSIGNMENT, limits, homes, prices))
        self.assertEqual(told, checked_assignment(costs_of(EXAMPLE, self.USES), limits, homes, prices))
        return told

    def test_accepted(self):
        self.assertEqual(self.asked([1, 1, 1, 1], [0, 1, 2], [0, 0, 0, 0]), [0, 1, 0])
        self.assertEqual(self.asked([12, 12, 12, 12], [0, 1, 2], [0, 0, 0, 0]), [0, 1, 0])
        self.assertEqual(self.asked([0, 2, 1, 0], [1, 1, 2], [3, 0, 0, 2]), [0, 1, 3])
        self.assertEqual(self.asked([0, 2, 1, 0], [1, 1, 2], [10 ** 9, 0, 0, 10 ** 9]), [0, 1, 3])

    def test_code_1_at_each_version(self):
        for version in range(4):
            limits = [3] * 4
            limits[version] = 2
            self.assertEqual(self.asked(limits, [version] * 3, [0] * 4), [0, 0, 1, version])
            limits[version] = 0
            self.assertEqual(self.asked(limits, [version] * 3, [0] * 4), [0, 0, 1, version])
            limits[version] = 3
            self.assertEqual(self.asked(limits, [version] * 3, [0] * 4)[:3], [0, 0, 3])

    def test_code_2_at_each_version(self):
        homes = [0, 1, 2]
        for version in range(4):
            prices = [0] * 4
            prices[version] = 1
            limits = [1, 1, 1, 0]
            self.assertEqual(self.asked(limits, homes, prices), [0, 1, 0])
            limits[version] += 1
            self.assertEqual(self.asked(limits, homes, prices), [0, 0, 2, version])
            limits[version] = 12
            self.assertEqual(self.asked(limits, homes, prices), [0, 0, 2, version])

    def test_code_3_at_each_row(self):
        for place in range(3):
            homes = [0, 1, 2]
            homes[place] = 3
            self.assertEqual(self.asked([1, 1, 1, 1], homes, [0, 0, 0, 0]), [0, 0, 3, place])
        # As small a sum as that of the home is no fault, and a smaller one is.
        self.assertEqual(self.asked([1, 1, 1, 1], [0, 1, 2], [3, 0, 0, 0]), [0, 1, 0])
        self.assertEqual(self.asked([1, 1, 1, 1], [0, 1, 2], [4, 0, 0, 0]), [0, 0, 3, 0])
        self.assertEqual(self.asked([1, 1, 1, 0], [0, 1, 2], [0, 2, 0, 0]), [0, 1, 0])
        self.assertEqual(self.asked([1, 1, 1, 0], [0, 1, 2], [0, 3, 0, 0]), [0, 0, 3, 1])
        self.assertEqual(self.asked([1, 1, 1, 1], [0, 1, 2], [0, 0, 10, 0]), [0, 1, 0])
        self.assertEqual(self.asked([1, 1, 1, 1], [0, 1, 2], [0, 0, 11, 0]), [0, 0, 3, 2])

    def test_several_conditions_at_once(self):
        for limits, homes, prices, answer in [
            ([0, 1, 1, 0], [3, 3, 0], [0, 0, 0, 0], [1, 0]),
            ([1, 1, 1, 1], [3, 3, 0], [0, 1, 1, 0], [1, 3]),
            ([1, 1, 1, 1], [3, 3, 3], [9, 9, 9, 9], [1, 3]),
            ([1, 1, 1, 1], [2, 2, 2], [9, 0, 0, 9], [1, 2]),
            ([1, 1, 1, 1], [1, 0, 3], [0, 0, 5, 5], [2, 2]),
            ([2, 1, 3, 1], [1, 0, 3], [1, 0, 1, 0], [2, 0]),
            ([1, 1, 1, 2], [1, 0, 3], [0, 0, 0, 5], [2, 3]),
            ([1, 1, 1, 1], [1, 0, 3], [0, 0, 0, 0], [3, 0]),
            ([1, 1, 1, 1], [0, 3, 1], [0, 0, 0, 0], [3, 1]),
        ]:
            self.assertEqual(self.asked(limits, homes, prices), [0, 0] + answer, (limits, homes, prices))

    def test_against_the_definition(self):
        seen = {}
        for seed in range(500):
            shape, uses, limits = random_case(seed, 5, 5, 3)
            chance = random.Random(seed)
            costs = costs_of(shape, uses)
            homes = best_by_room(costs, limits)[1]
            prices = prices_by(best_by_room, costs, limits)
            for change in range(chance.choice([0, 0, 1, 2])):
                version = chance.randrange(len(limits))
                prices[version] = max(0, prices[version] + chance.choice([-1, 1, 20]))
                if homes:
                    homes[chance.randrange(len(homes))] = version
            told = last(*start_of(shape, uses), (CHECK_ASSIGNMENT, limits, homes, prices))
            self.assertEqual(told, checked_assignment(costs, limits, homes, prices), seed)
            seen[told[2] if told[1] == 0 else 0] = seen.get(told[2] if told[1] == 0 else 0, 0) + 1
            if told[1] == 1:
                self.assertEqual(told[2], best_by_room(costs, limits)[0])
        self.assertEqual(sorted(seen), [0, 1, 2, 3])
        self.assertGreater(min(seen.values()), 20)

    def test_the_answer_of_assign_is_accepted(self):
        for seed in range(60):
            shape, uses, limits = random_case(seed, 10, 12, seed % 5)
            start = start_of(shape, uses)
            told = last(*start, (ASSIGN, limits))
            homes, prices = told[3:3 + len(uses)], told[4 + len(uses):]
            self.assertTrue(within(homes, limits))
            self.assertEqual(told[1], homes_cost(costs_of(shape, uses), homes))
            self.assertEqual(last(*start, (CHECK_ASSIGNMENT, limits, homes, prices)), [0, 1, told[1]], seed)

    def test_no_rows_and_twelve_rows(self):
        tree = (TREE, 1, EXAMPLE[0], EXAMPLE[1])
        self.assertEqual(last(tree, (CHECK_ASSIGNMENT, [0] * 4, [], [7] * 4)), [0, 1, 0])
        self.assertEqual(last(tree, (CHECK_ASSIGNMENT, [0, 0, 1, 0], [], [7] * 4)), [0, 0, 2, 2])
        self.assertEqual(last(tree, (CHECK_ASSIGNMENT, [12] * 4, [], [0] * 4)), [0, 1, 0])
        start = start_of(EXAMPLE, [[3]] * 12)
        self.assertEqual(last(*start, (CHECK_ASSIGNMENT, [12] * 4, [3] * 12, [0, 0, 0, 9])), [0, 0, 3, 0])
        self.assertEqual(last(*start, (CHECK_ASSIGNMENT, [12] * 4, [3] * 12, [0, 0, 0, 2])), [0, 1, 0])
        self.assertEqual(last(*start, (CHECK_ASSIGNMENT, [12] * 4, [3] * 12, [0, 0, 0, 0])), [0, 1, 0])
        self.assertEqual(last(*start, (CHECK_ASSIGNMENT, [12] * 4, [3] * 11 + [1], [0, 0, 0, 0])), [0, 0, 3, 11])
        self.assertEqual(last(*start, (CHECK_ASSIGNMENT, [12, 12, 12, 11], [3] * 12, [0, 0, 0, 0])), [0, 0, 1, 3])
        self.assertEqual(last(start[0], *start[1:], (CHECK_ASSIGNMENT, [12] * 4, [3] * 13, [0] * 4)), [-1])

    def test_one_version_and_ten_versions(self):
        start = start_of(ONE, [[0], [0]])
        self.assertEqual(last(*start, (CHECK_ASSIGNMENT, [2], [0, 0], [10 ** 9])), [0, 1, 0])
        self.assertEqual(last(*start, (CHECK_ASSIGNMENT, [3], [0, 0], [1])), [0, 0, 2, 0])
        self.assertEqual(last(*start, (CHECK_ASSIGNMENT, [1], [0, 0], [0])), [0, 0, 1, 0])
        start = start_of(BIG_STAR, [[9], [8]])
        self.assertEqual(last(*start, (CHECK_ASSIGNMENT, [1] * 10, [9, 8], [0] * 10)), [0, 1, 0])
        self.assertEqual(last(*start, (CHECK_ASSIGNMENT, [1] * 9 + [0], [0, 8], [0] * 9 + [100])), [0, 1, 100])
        self.assertEqual(last(*start, (CHECK_ASSIGNMENT, [1] * 9 + [0], [0, 8], [0] * 9 + [99])), [0, 0, 3, 0])
        self.assertEqual(last(*start, (CHECK_ASSIGNMENT, [1] * 9 + [0], [9, 8], [0] * 10)), [0, 0, 1, 9])

    def test_as_many_limits_homes_and_prices_as_there_are_versions_and_rows(self):
        start = start_of(EXAMPLE, self.USES)
        for sizes in itertools.product((0, 3, 4, 5, 10), (0, 2, 3, 4, 12), (0, 3, 4, 5, 10)):
            told = last(*start, (CHECK_ASSIGNMENT, [12] * sizes[0], [0] * sizes[1], [0] * sizes[2]))
            self.assertEqual(told, [0, 0, 3, 1] if sizes == (4, 3, 4) else [-5], sizes)

    def test_edges_of_each_list(self):
        start = start_of(BIG_STAR, [[]] * 2)
        good = ([12] * 10, [0, 9], [0] * 10)
        self.assertEqual(last(*start, (CHECK_ASSIGNMENT,) + good), [0, 1, 0])
        for part, wrongs, too_long in [(0, (-1, 13), 11), (1, (-1, 10), 13), (2, (-1, 10 ** 9 + 1), 11)]:
            for wrong in wrongs + (HUGE, -HUGE):
                for place in (0, len(good[part]) - 1):
                    lists = [list(numbers) for numbers in good]
                    lists[part][place] = wrong
                    self.assertEqual(last(*start, (CHECK_ASSIGNMENT, *lists)), [-1], (part, wrong))
            for size in (too_long, 1200):
                lists = [list(numbers) for numbers in good]
                lists[part] = [0] * size
                self.assertEqual(last(*start, (CHECK_ASSIGNMENT, *lists)), [-1], (part, size))

    def test_homes_that_do_not_exist(self):
        start = start_of(EXAMPLE, self.USES)
        for homes in ([4, 0, 0], [0, 0, 9], [0, 4, 0]):
            self.assertEqual(last(*start, (CHECK_ASSIGNMENT, [3] * 4, homes, [0] * 4)), [-4], homes)


if __name__ == "__main__":
    unittest.main()
