"""The document's requirements 1, 2, 3 and 5 on small trees, against plain searches over all there is.

Requirement 4 is held against every home in test_medians, requirement 6 is in test_refusals.
"""

import itertools
import random
import unittest

from helper import (ADD, ASSIGN, BEST, BOUND, CHAIN, CHECK_ASSIGNMENT, CHECK_BOUND, COUNTERS, EXAMPLE, ROW,
                    SCHEDULE_COST, STAR, TREE, TWO, USE, Model, best_of_all_homes, homes_cost, run, used_model,
                    used_row, within)


def in_parts(calls, start):
    """The answers of the calls, handed in behind the start, as many at once as a list of calls may have."""
    size = 40 - len(start)
    told = []
    for first in range(0, len(calls), size):
        told += run(*start, *calls[first:first + size])[len(start):]
    return told


class FollowedUsesTest(unittest.TestCase):
    def check(self, factor, shape, first_home, uses, told):
        count = len(shape[0]) + 1
        model = Model(factor, shape, first_home)
        model.uses = list(uses)
        row, counters, best, bound = told
        # Requirement 1.
        model.marked_lower = {edge: counters[2 * edge] == 1 for edge in model.edges}
        self.assertEqual(model.marked_versions(), [row[1]], (shape, uses))
        # Requirement 2, against each schedule there is, and requirement 3.
        least = min(model.schedule_cost(homes) for homes in itertools.product(range(count), repeat=len(uses)))
        self.assertLessEqual(row[3], 3 * least, (factor, shape, first_home, uses))
        self.assertEqual([row[5], best[1], bound[1]], [least] * 3, (factor, shape, first_home, uses))
        return row[3] == 3 * least and least > 0

    def check_all_uses(self, factor, shape, size):
        """Each list of so many uses, with the first home ahead of them."""
        count = len(shape[0]) + 1
        every = list(itertools.product(range(count), repeat=size + 1))
        just_three_times = 0
        for first in range(0, len(every), 6):
            calls = [(TREE, factor, shape[0], shape[1])]
            for row, uses in enumerate(every[first:first + 6], start=1):
                calls += [(ADD, row, uses[0]), (USE, row, list(uses[1:])), (ROW, row), (COUNTERS, row), (BEST, row),
                          (BOUND, row)]
            told = run(*calls)
            for row, uses in enumerate(every[first:first + 6]):
                just_three_times += self.check(factor, shape, uses[0], uses[1:], told[6 * row + 3:6 * row + 7])
        return just_three_times

    def test_all_uses_of_small_trees(self):
        self.assertGreater(self.check_all_uses(1, TWO, 6), 0)
        self.assertGreater(self.check_all_uses(2, TWO, 7), 0)
        self.check_all_uses(3, ([0], [100]), 5)
        self.check_all_uses(1, ([0, 0], [1, 4]), 4)
        self.check_all_uses(2, ([0, 1], [3, 1]), 4)
        self.assertGreater(self.check_all_uses(1, ([0, 1], [1, 2]), 4), 0)
        self.check_all_uses(1, STAR, 3)
        self.check_all_uses(1, CHAIN, 3)
        self.check_all_uses(1, EXAMPLE, 3)

    def test_uses_far_from_the_home_again_and_again(self):
        # As soon as the row has moved, the uses are on the other side of the tree.
        for factor, shape in [(1, TWO), (2, TWO), (1, ([0, 1], [1, 2])), (2, ([0, 0], [1, 1]))]:
            count = len(shape[0]) + 1
            uses = []
            home = 0
            while len(uses) < (9 if count == 2 else 7):
                model = Model(factor, shape)
                uses.append(max(range(count), key=lambda version: model.distance(home, version)))
                told = run(*used_row(factor, shape, 0, uses), (ROW, 4), (COUNTERS, 4), (BEST, 4), (BOUND, 4))[3:]
                self.check(factor, shape, 0, uses, told)
                home = told[0][1]

    def test_no_schedule_costs_less_than_the_best_one(self):
        for factor, shape, uses in [(1, TWO, [1, 1, 0, 1]), (2, EXAMPLE, [3, 2, 3]), (1, STAR, [1, 3, 3]),
                                    (1, CHAIN, [3, 3, 1])]:
            start = used_row(factor, shape, 0, uses)
            best = run(*start, (BEST, 4))[-1]
            every = list(itertools.product(range(len(shape[0]) + 1), repeat=len(uses)))
            told = in_parts([(SCHEDULE_COST, 4, list(homes)) for homes in every], start)
            self.assertEqual(min(cost for code, cost in told), best[1])
            first = [homes for homes, (code, cost) in zip(every, told) if cost == best[1]][0]
            self.assertEqual(best[3:], list(first))


class BoundTest(unittest.TestCase):
    def check(self, factor, shape, first_home, uses, every):
        """No values of these are accepted with a bound above the cost of the cheapest of all schedules."""
        model = used_model(factor, shape, first_home, uses)
        least = model.best_of_all()[0]
        bounds = []
        told = in_parts([(CHECK_BOUND, 4, list(values)) for values in every], used_row(factor, shape, first_home, uses))
        for values, answer in zip(every, told, strict=True):
            self.assertEqual(answer, model.checked_bound(list(values)), (uses, values))
            if answer[1] == 1:
                bounds.append(answer[2])
        self.assertEqual(max(bounds), least)

    def test_all_values_of_one_use(self):
        every = list(itertools.product(range(-1, 3), repeat=4))
        for first_home in (0, 1):
            for version in (0, 1):
                self.check(1, TWO, first_home, [version], every)

    def test_all_values_of_two_uses(self):
        every = [(0, 1) + values for values in itertools.product(range(-1, 3), repeat=4)]
        for uses in itertools.product((0, 1), repeat=2):
            self.check(1, TWO, 1, list(uses), every)

    def test_values_near_the_reported_ones(self):
        for factor, shape, first_home, uses in [(2, EXAMPLE, 3, [3, 2, 2, 0]), (1, STAR, 1, [2, 2, 3]),
                                                (3, CHAIN, 0, [3, 3, 1])]:
            values = used_model(factor, shape, first_home, uses).reported_values()
            every = [values]
            for place in range(len(values)):
                for change in (-4, -1, 1, 4):
                    every.append(values[:place] + [values[place] + change] + values[place + 1:])
            self.check(factor, shape, first_home, uses, every)


class AssignmentTest(unittest.TestCase):
    def cases(self):
        for seed in range(40):
            chance = random.Random(seed)
            shape = [TWO, CHAIN, STAR, EXAMPLE, ([0, 1], [1, 1])][seed % 5]
            count = len(shape[0]) + 1
            uses = [[chance.randrange(count) for use in range(chance.randint(0, 3))]
                    for row in range(chance.randint(1, 3))]
            limits = [0] * count
            for place in range(len(uses) + chance.randint(0, 2)):
                limits[chance.randrange(count)] += 1
            start = [(TREE, 2, shape[0], shape[1])]
            for row, versions in enumerate(uses, start=1):
                start += [(ADD, row, 0), (USE, row, versions)]
            costs = [used_model(2, shape, 0, versions).row_costs() for versions in uses]
            yield chance, start, costs, limits

    def test_with_the_prices_of_the_versions_just_the_cheapest_assignments_are_accepted(self):
        not_alone = 0
        for chance, start, costs, limits in self.cases():
            count = len(limits)
            least = best_of_all_homes(costs, limits)[0]
            prices = run(*start, (ASSIGN, limits))[-1][-count:]
            every = [list(homes) for homes in itertools.product(range(count), repeat=len(costs))]
            told = in_parts([(CHECK_ASSIGNMENT, limits, homes, prices) for homes in every], start)
            for homes, answer in zip(every, told, strict=True):
                cheapest = within(homes, limits) and homes_cost(costs, homes) == least
                self.assertEqual(answer == [0, 1, least], cheapest, (costs, limits, homes))
                self.assertEqual(answer[1] == 1, cheapest, (costs, limits, homes))
            not_alone += sum(answer[1] for answer in told) > 1
        self.assertGreater(not_alone, 5)

    def test_an_accepted_assignment_is_cheapest_and_no_accepted_prices_are_smaller(self):
        accepted = 0
        for chance, start, costs, limits in self.cases():
            count = len(limits)
            least = best_of_all_homes(costs, limits)[0]
            prices = run(*start, (ASSIGN, limits))[-1][-count:]
            calls = []
            for turn in range(150):
                near = [max(0, price + chance.choice([-2, -1, 0, 0, 0, 1, 3])) for price in prices]
                calls.append((CHECK_ASSIGNMENT, limits, [chance.randrange(count) for row in costs], near))
            for call, answer in zip(calls, in_parts(calls, start), strict=True):
                if answer[1] == 1:
                    accepted += 1
                    self.assertTrue(within(call[2], limits))
                    self.assertEqual(answer[2], least)
                    self.assertEqual(homes_cost(costs, call[2]), least)
                    self.assertTrue(all(given >= price for given, price in zip(call[3], prices)), (costs, limits, call))
        self.assertGreater(accepted, 200)


if __name__ == "__main__":
    unittest.main()
