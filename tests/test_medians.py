"""The calls median and check_median."""

import itertools
import random
import unittest

from helper import (ADD, BIG_STAR, CHECK_MEDIAN, EXAMPLE, HUGE, LONG_CHAIN, MEDIAN, MIXED, ONE, ROW, SHAPES,
                    SMALL_SHAPES, TREE, USE, Model, last, random_shape, run)


def random_weights(seed, size):
    chance = random.Random(seed)
    return [chance.choice([0, 0, 1, chance.randint(0, 9), chance.choice([999, 1000])]) for version in range(size)]


class MedianTest(unittest.TestCase):
    def check(self, shape, weights):
        """The median by the cost of every home, and each version checked: accepted where it costs as little."""
        model = Model(1, shape)
        costs = [model.fixed_cost(home, weights) for home in range(model.count)]
        asks = [(CHECK_MEDIAN, version, weights) for version in range(model.count)]
        told = run((TREE, 20, shape[0], shape[1]), (MEDIAN, weights), *asks)
        self.assertEqual(told[1], [0, costs.index(min(costs)), min(costs)], (shape, weights))
        for version, answer in enumerate(told[2:]):
            self.assertEqual(answer, model.checked_median(version, weights), (shape, weights, version))
            self.assertEqual(answer == [0, 1], costs[version] == min(costs), (shape, weights, version))
            if answer != [0, 1]:
                self.assertLess(costs[answer[2]], costs[version])
        return told[1][1]

    def test_all_weights_up_to_three_on_small_trees(self):
        for shape in SMALL_SHAPES:
            for weights in itertools.product(range(4), repeat=len(shape[0]) + 1):
                self.check(shape, list(weights))

    def test_all_shapes(self):
        medians = set()
        for seed in range(300):
            shape = SHAPES[seed % len(SHAPES)]
            medians.add(self.check(shape, random_weights(seed, len(shape[0]) + 1)))
        self.assertEqual(medians, set(range(10)))

    def test_other_trees(self):
        for seed in range(300):
            shape = random_shape(seed, 1 + seed % 10)
            self.check(shape, random_weights(seed, len(shape[0]) + 1))

    def test_one_version(self):
        for weight in (0, 1, 1000):
            told = run((TREE, 1, ONE[0], ONE[1]), (MEDIAN, [weight]), (CHECK_MEDIAN, 0, [weight]))
            self.assertEqual(told[1:], [[0, 0, 0], [0, 1]])

    def test_weights_that_are_all_0(self):
        for shape in SHAPES:
            count = len(shape[0]) + 1
            asks = [(CHECK_MEDIAN, version, [0] * count) for version in range(count)]
            told = run((TREE, 1, shape[0], shape[1]), (MEDIAN, [0] * count), *asks)
            self.assertEqual(told[1:], [[0, 0, 0]] + [[0, 1]] * count)

    def test_several_medians(self):
        # Just half of the weights beyond a neighbour is not more than half: all versions on the way are medians.
        chain = (TREE, 1, LONG_CHAIN[0], LONG_CHAIN[1])
        self.assertEqual(last(chain, (MEDIAN, [0, 0, 3, 0, 0, 0, 0, 3, 0, 0])), [0, 2, 3 * 14])
        weights = [0, 0, 3, 0, 0, 0, 0, 3, 0, 0]
        told = run(chain, *[(CHECK_MEDIAN, version, weights) for version in range(10)])[1:]
        self.assertEqual(told, [[0, 0, 1, 6], [0, 0, 2, 6]] + [[0, 1]] * 6 + [[0, 0, 7, 6], [0, 0, 8, 6]])
        # The smallest number, not the one that's nearest to version 0.
        self.assertEqual(last((TREE, 1, [0, 1, 0], [5, 5, 5]), (MEDIAN, [0, 0, 1, 1])), [0, 0, 15])
        self.assertEqual(last((TREE, 1, [0, 0, 2, 1], [5, 5, 5, 5]), (MEDIAN, [0, 0, 0, 1, 1])), [0, 0, 20])
        self.assertEqual(last((TREE, 1, [0, 0, 1], [3, 5, 2]), (MEDIAN, [0, 1, 0, 1])), [0, 1, 2])

    def test_one_more_than_half(self):
        tree = (TREE, 1, [0], [100])
        told = run(tree, (CHECK_MEDIAN, 0, [500, 500]), (CHECK_MEDIAN, 0, [500, 501]), (CHECK_MEDIAN, 1, [500, 501]),
                   (CHECK_MEDIAN, 1, [501, 500]), (CHECK_MEDIAN, 0, [0, 1]), (MEDIAN, [500, 501]), (MEDIAN, [501, 500]))
        self.assertEqual(told[1:], [[0, 1], [0, 0, 1, 501], [0, 1], [0, 0, 0, 501], [0, 0, 1, 1], [0, 1, 50000],
                                    [0, 0, 50000]])

    def test_ten_versions(self):
        star = (TREE, 1, BIG_STAR[0], BIG_STAR[1])
        self.assertEqual(last(star, (MEDIAN, [1000] * 10)), [0, 0, 1000 * 136])
        self.assertEqual(last(star, (MEDIAN, [0] + [100] * 8 + [801])), [0, 9, 100 * 36 + 800 * 100])
        self.assertEqual(last(star, (CHECK_MEDIAN, 0, [0] + [100] * 8 + [801])), [0, 0, 9, 801])
        self.assertEqual(last(star, (CHECK_MEDIAN, 9, [0] + [100] * 8 + [800])), [0, 1])
        # Far beyond the neighbour counts too.
        mixed = (TREE, 1, MIXED[0], MIXED[1])
        self.assertEqual(last(mixed, (CHECK_MEDIAN, 4, [0, 0, 0, 0, 1, 0, 0, 0, 0, 7])), [0, 0, 1, 7])
        self.assertEqual(last(mixed, (CHECK_MEDIAN, 0, [1, 0, 0, 0, 1, 0, 0, 3, 0, 0])), [0, 0, 2, 3])

    def test_the_rows_and_their_uses_do_not_count(self):
        told = run((TREE, 2, EXAMPLE[0], EXAMPLE[1]), (ADD, 7, 3), (USE, 7, [3] * 9), (MEDIAN, [0, 0, 1, 0]),
                   (CHECK_MEDIAN, 3, [0, 0, 1, 0]), (ROW, 7))
        self.assertEqual(told[3:], [[0, 2, 0], [0, 0, 1, 1], [0, 3, 3, 0, 0, 0, 9] + [3] * 9])

    def test_a_weight_for_each_version(self):
        for shape in SHAPES:
            count = len(shape[0]) + 1
            for size in range(11):
                answer = [0, 0, 0] if size == count else [-5]
                told = run((TREE, 1, shape[0], shape[1]), (MEDIAN, [0] * size), (CHECK_MEDIAN, 0, [0] * size))
                self.assertEqual(told[1:], [answer, [0, 1] if size == count else [-5]])

    def test_edges_of_the_weights(self):
        tree = (TREE, 1, [0], [1])
        self.assertEqual(last(tree, (MEDIAN, [0, 1000])), [0, 1, 0])
        for wrong in (-1, 1001, HUGE, -HUGE):
            for weights in ([wrong, 0], [0, wrong], [wrong]):
                for call in [(MEDIAN, weights), (CHECK_MEDIAN, 0, weights)]:
                    self.assertEqual(last(tree, call), [-1], call)
        for size in (11, 1200):
            for call in [(MEDIAN, [0] * size), (CHECK_MEDIAN, 0, [0] * size)]:
                self.assertEqual(last(tree, call), [-1], size)

    def test_edges_of_the_version(self):
        star = (TREE, 1, BIG_STAR[0], BIG_STAR[1])
        self.assertEqual(last(star, (CHECK_MEDIAN, 9, [0] * 10)), [0, 1])
        for wrong in (-1, 10, HUGE, -HUGE):
            self.assertEqual(last(star, (CHECK_MEDIAN, wrong, [0] * 10)), [-1], wrong)
        for missing in (4, 9):
            tree = (TREE, 1, EXAMPLE[0], EXAMPLE[1])
            self.assertEqual(last(tree, (CHECK_MEDIAN, missing, [0] * 4)), [-4], missing)


if __name__ == "__main__":
    unittest.main()
