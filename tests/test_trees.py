"""The calls tree and distance."""

import unittest

from helper import ADD, DISTANCE, HUGE, LONG_CHAIN, ONE, ROW, SHAPES, TREE, Model, last, random_shape, run


class TreeTest(unittest.TestCase):
    def test_tells_the_number_of_versions(self):
        for parents, lengths in SHAPES:
            self.assertEqual(run((TREE, 1, parents, lengths)), [[0, len(parents) + 1]])

    def test_edges_of_the_factor(self):
        for factor, answer in [(1, [0, 1]), (20, [0, 1]), (0, [-1]), (21, [-1]), (-1, [-1]), (HUGE, [-1]), (-HUGE, [-1])]:
            self.assertEqual(last((TREE, factor, [], [])), answer, factor)

    def test_edges_of_the_parents(self):
        chain = list(range(9))
        self.assertEqual(last((TREE, 1, chain, [1] * 9)), [0, 10])
        self.assertEqual(last((TREE, 1, [0] * 9, [1] * 9)), [0, 10])
        self.assertEqual(last((TREE, 1, [0] * 10, [1] * 10)), [-1])
        self.assertEqual(last((TREE, 1, [0] * 10, [1] * 9)), [-1])
        self.assertEqual(last((TREE, 1, [0] * 1200, [1] * 1200)), [-1])
        for place in range(9):
            for wrong in (place + 1, -1, HUGE, -HUGE):
                self.assertEqual(last((TREE, 1, chain[:place] + [wrong] + chain[place + 1:], [1] * 9)), [-1])

    def test_edges_of_the_lengths(self):
        self.assertEqual(last((TREE, 1, [0, 0], [1, 100])), [0, 3])
        for wrong in (0, 101, -1, HUGE, -HUGE):
            self.assertEqual(last((TREE, 1, [0, 0], [wrong, 100])), [-1], wrong)
            self.assertEqual(last((TREE, 1, [0, 0], [1, wrong])), [-1], wrong)

    def test_lists_of_unlike_length(self):
        for parents, lengths in [([], [1]), ([0], []), ([0], [1, 1]), ([0, 0], [1]), ([0], [1] * 1200), ([0] * 1200, [1])]:
            self.assertEqual(last((TREE, 1, parents, lengths)), [-1], (parents, lengths))

    def test_a_new_tree_has_no_rows(self):
        told = run((TREE, 2, [0], [4]), (ADD, 7, 1), (TREE, 2, [0], [4]), (ROW, 7), (ADD, 7, 0), (ROW, 7))
        self.assertEqual(told, [[0, 2], [0, 1], [0, 2], [-3], [0, 1], [0, 0, 0, 0, 0, 0, 0]])

    def test_a_new_tree_takes_the_place_of_the_old_one(self):
        told = run((TREE, 2, [0, 1], [4, 5]), (DISTANCE, 2, 0), (TREE, 3, [0], [7]), (DISTANCE, 1, 0), (DISTANCE, 2, 0))
        self.assertEqual(told, [[0, 3], [0, 9, 3, 2, 1, 0], [0, 2], [0, 7, 2, 1, 0], [-4]])


class DistanceTest(unittest.TestCase):
    def check_all_pairs(self, shape):
        model = Model(1, shape)
        for version in range(model.count):
            calls = [(DISTANCE, version, other) for other in range(model.count)]
            told = run((TREE, 5, shape[0], shape[1]), *calls)[1:]
            for other, given in enumerate(told):
                way = model.way(version, other)
                self.assertEqual(given, [0, model.distance(version, other), len(way)] + way, (shape, version, other))

    def test_all_pairs_of_the_shapes(self):
        for shape in SHAPES:
            self.check_all_pairs(shape)

    def test_all_pairs_of_other_trees(self):
        for seed in range(60):
            self.check_all_pairs(random_shape(seed, seed % 10 + 1))

    def test_by_hand(self):
        chain = (TREE, 1, LONG_CHAIN[0], LONG_CHAIN[1])
        self.assertEqual(last(chain, (DISTANCE, 9, 6)), [0, 55, 4, 9, 8, 7, 6])
        self.assertEqual(last(chain, (DISTANCE, 0, 2)), [0, 101, 3, 0, 1, 2])
        self.assertEqual(last((TREE, 1, ONE[0], ONE[1]), (DISTANCE, 0, 0)), [0, 0, 1, 0])

    def test_versions_that_do_not_exist(self):
        tree = (TREE, 1, [0, 0, 1], [3, 5, 2])
        for version, other in [(4, 0), (0, 4), (9, 9), (3, 9)]:
            self.assertEqual(last(tree, (DISTANCE, version, other)), [-4])

    def test_versions_outside_the_limits(self):
        tree = (TREE, 1, list(range(9)), [1] * 9)
        self.assertEqual(last(tree, (DISTANCE, 9, 0)), [0, 9, 10, 9, 8, 7, 6, 5, 4, 3, 2, 1, 0])
        for wrong in (10, -1, HUGE, -HUGE):
            self.assertEqual(last(tree, (DISTANCE, wrong, 0)), [-1], wrong)
            self.assertEqual(last(tree, (DISTANCE, 0, wrong)), [-1], wrong)


if __name__ == "__main__":
    unittest.main()
