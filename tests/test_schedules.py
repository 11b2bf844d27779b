"""The calls schedule_cost and best, and the best cost that row tells."""

import unittest

from helper import (ADD, BEST, EXAMPLE, FACTORS, HUGE, MIXED, ROW, SCHEDULE_COST, SHAPES, SMALL_SHAPES, TREE, Model,
                    last, random_shape, random_uses, run, used_model, used_row)


class ScheduleCostTest(unittest.TestCase):
    def test_against_the_model(self):
        for seed in range(150):
            shape = SHAPES[seed % len(SHAPES)]
            count = len(shape[0]) + 1
            size = (0, 1, 7, 60)[seed % 4]
            factor = FACTORS[seed % 3]
            uses = random_uses(seed, count, size)
            homes = random_uses(seed + 5000, count, size)
            model = used_model(factor, shape, seed % count, uses)
            told = last(*used_row(factor, shape, seed % count, uses), (SCHEDULE_COST, 4, homes))
            self.assertEqual(told, [0, model.schedule_cost(homes)], (seed, shape))

    def test_the_first_step_moves_from_the_first_home(self):
        start = used_row(20, ([0], [7]), 0, [1] * 40)
        self.assertEqual(last(*start, (SCHEDULE_COST, 4, [1] * 40)), [0, 140])
        self.assertEqual(last(*start, (SCHEDULE_COST, 4, [0] * 40)), [0, 280])
        self.assertEqual(last(*start, (SCHEDULE_COST, 4, [1, 0] * 20)), [0, 40 * 140 + 20 * 7])

    def test_no_uses(self):
        start = [(TREE, 2, EXAMPLE[0], EXAMPLE[1]), (ADD, 4, 1)]
        self.assertEqual(last(*start, (SCHEDULE_COST, 4, [])), [0, 0])
        self.assertEqual(last(*start, (SCHEDULE_COST, 4, [1])), [-5])

    def test_as_many_versions_as_uses(self):
        start = used_row(2, EXAMPLE, 0, [3, 3, 3])
        for size, answer in [(0, [-5]), (2, [-5]), (3, [0, 15]), (4, [-5]), (60, [-5]), (61, [-1]), (1200, [-1])]:
            self.assertEqual(last(*start, (SCHEDULE_COST, 4, [0] * size)), answer, size)
        full = used_row(2, EXAMPLE, 0, [3] * 60)
        self.assertEqual(last(*full, (SCHEDULE_COST, 4, [3] * 60)), [0, 10])
        self.assertEqual(last(*full, (SCHEDULE_COST, 4, [3] * 59)), [-5])

    def test_edges_of_the_homes(self):
        start = used_row(2, MIXED, 0, [0, 0])
        self.assertEqual(last(*start, (SCHEDULE_COST, 4, [0, 9])), [0, 318])
        for wrong in (10, -1, HUGE, -HUGE):
            self.assertEqual(last(*start, (SCHEDULE_COST, 4, [0, wrong])), [-1], wrong)
            self.assertEqual(last(*start, (SCHEDULE_COST, 4, [wrong, 0])), [-1], wrong)
        for homes in ([4, 0], [0, 9]):
            self.assertEqual(last(*used_row(2, EXAMPLE, 0, [0, 0]), (SCHEDULE_COST, 4, homes)), [-4], homes)


class BestTest(unittest.TestCase):
    def check(self, factor, shape, first_home, uses, search):
        model = used_model(factor, shape, first_home, uses)
        cost, homes = search(model)
        told = run(*used_row(factor, shape, first_home, uses), (BEST, 4), (ROW, 4), (SCHEDULE_COST, 4, homes))
        self.assertEqual(told[3], [0, cost, len(uses)] + homes, (factor, shape, first_home, uses))
        self.assertEqual(told[4][5], cost)
        self.assertEqual(told[5], [0, cost])

    def test_against_a_search_over_all_schedules(self):
        seed = 0
        for factor in FACTORS:
            for shape in SMALL_SHAPES:
                for size in (0, 1, 2, 3, 4, 5):
                    for first_home in range(len(shape[0]) + 1):
                        seed += 1
                        uses = random_uses(seed, len(shape[0]) + 1, size)
                        self.check(factor, shape, first_home, uses, Model.best_of_all)

    def test_ties_against_a_search_over_all_schedules(self):
        # With lengths 1 and a small factor many schedules cost the same.
        for shape in [([0], [1]), ([0, 1], [1, 1]), ([0, 0], [1, 1]), ([0, 0, 0], [1, 1, 1])]:
            count = len(shape[0]) + 1
            for seed in range(40):
                uses = random_uses(seed, count, 5)
                self.check(1 + seed % 2, shape, seed % count, uses, Model.best_of_all)

    def test_long_rows_on_all_shapes(self):
        for factor in FACTORS:
            for number, shape in enumerate(SHAPES):
                count = len(shape[0]) + 1
                for first_home in range(count):
                    uses = random_uses(number * 10 + first_home, count, 60)
                    self.check(factor, shape, first_home, uses, Model.best_by_ends)

    def test_other_trees(self):
        for seed in range(120):
            shape = random_shape(seed, 1 + seed % 10, 1 + seed % 5)
            count = len(shape[0]) + 1
            uses = random_uses(seed, count, 20 + seed % 41)
            self.check(1 + seed % 20, shape, seed % count, uses, Model.best_by_ends)

    def test_the_first_of_several_by_hand(self):
        # Moving at once, later or never costs 2 with two uses: staying in the smaller version comes first ..
        self.assertEqual(last(*used_row(2, ([0], [1]), 0, [1, 1]), (BEST, 4)), [0, 2, 2, 0, 0])
        # .. and where the first home is the greater one, so does moving to the smaller one at once.
        self.assertEqual(last(*used_row(2, ([0], [1]), 1, [0, 0]), (BEST, 4)), [0, 2, 2, 0, 0])
        self.assertEqual(last(*used_row(1, ([0], [1]), 1, [0, 1, 0]), (BEST, 4)), [0, 2, 3, 0, 0, 0])

    def test_no_uses(self):
        self.assertEqual(last((TREE, 20, MIXED[0], MIXED[1]), (ADD, 4, 9), (BEST, 4)), [0, 0, 0])


if __name__ == "__main__":
    unittest.main()
