"""The calls add, use, row and counters, and the homes that follow uses."""

import unittest

from helper import (ADD, COUNTERS, EXAMPLE, FACTORS, HUGE, ROW, SHAPES, TREE, USE, Model, last, random_shape,
                    random_uses, run)


class AddTest(unittest.TestCase):
    def test_counts_the_rows_up_to_twelve(self):
        adds = [(ADD, 100 - number, number % 4) for number in range(13)]
        told = run((TREE, 2, EXAMPLE[0], EXAMPLE[1]), *adds)
        self.assertEqual(told[1:], [[0, count] for count in range(1, 13)] + [[-6]])

    def test_a_number_twice(self):
        told = run((TREE, 2, EXAMPLE[0], EXAMPLE[1]), (ADD, 7, 1), (ADD, 7, 1), (ADD, 7, 2), (ADD, 8, 2))
        self.assertEqual(told[1:], [[0, 1], [-6], [-6], [0, 2]])

    def test_edges_of_the_row_number(self):
        for row, answer in [(1, [0, 1]), (9999, [0, 1]), (0, [-1]), (10000, [-1]), (HUGE, [-1]), (-HUGE, [-1])]:
            self.assertEqual(last((TREE, 1, [], []), (ADD, row, 0)), answer, row)

    def test_edges_of_the_version(self):
        tree = (TREE, 1, [0] * 9, [1] * 9)
        for version, answer in [(0, [0, 1]), (9, [0, 1]), (10, [-1]), (-1, [-1]), (HUGE, [-1]), (-HUGE, [-1])]:
            self.assertEqual(last(tree, (ADD, 5, version)), answer, version)
        small = (TREE, 1, [0], [1])
        for version, answer in [(1, [0, 1]), (2, [-4]), (9, [-4])]:
            self.assertEqual(last(small, (ADD, 5, version)), answer, version)

    def test_a_new_row_is_fresh_in_every_version(self):
        for factor in FACTORS:
            for shape in SHAPES:
                for home in range(len(shape[0]) + 1):
                    told = run((TREE, factor, shape[0], shape[1]), (ADD, 9999, home), (ROW, 9999), (COUNTERS, 9999))
                    self.assertEqual(told[2], [0, home, home, 0, 0, 0, 0])
                    self.assertEqual(told[3], Model(factor, shape, home).counter_fields())


class UseTest(unittest.TestCase):
    def follow(self, factor, shape, first_home, uses, size):
        """Uses the row in parts of the size, and holds every answer against the model."""
        model = Model(factor, shape, first_home)
        calls = [(TREE, factor, shape[0], shape[1]), (ADD, 3, first_home)]
        expected = [[0, model.count], [0, 1]]
        for start in range(0, len(uses), size):
            part = uses[start:start + size]
            cost, moves = model.cost, model.moves
            for version in part:
                model.use(version)
            calls += [(USE, 3, part), (COUNTERS, 3)]
            expected += [[0, model.cost - cost, model.moves - moves, model.home], model.counter_fields()]
        told = run(*calls, (ROW, 3))
        self.assertEqual(told[:-1], expected, (factor, shape, first_home, uses))
        best = model.best_by_ends()[0]
        self.assertEqual(told[-1], [0, model.home, first_home, model.cost, model.moves, best, len(uses)] + uses)
        return model

    def test_all_shapes_and_factors_against_the_model(self):
        seen_moves = set()
        for factor in FACTORS:
            for number, shape in enumerate(SHAPES):
                for first_home in range(len(shape[0]) + 1):
                    seed = 1000 * factor + 10 * number + first_home
                    uses = random_uses(seed, len(shape[0]) + 1, 60)
                    seen_moves.add(min(self.follow(factor, shape, first_home, uses, 4).moves, 2))
        self.assertEqual(seen_moves, {0, 1, 2})

    def test_other_trees_against_the_model(self):
        for seed in range(120):
            shape = random_shape(seed, 2 + seed % 9, 1 + seed % 100)
            uses = random_uses(seed, len(shape[0]) + 1, 60 - seed % 7)
            self.follow(1 + seed % 20, shape, seed % (len(shape[0]) + 1), uses, 5)

    def test_one_after_another_and_at_once_are_the_same(self):
        uses = [3, 3, 2, 3, 3, 1, 2, 2, 0, 2, 2, 1]
        start = [(TREE, 2, EXAMPLE[0], EXAMPLE[1]), (ADD, 7, 0)]
        at_once = run(*start, (USE, 7, uses), (ROW, 7), (COUNTERS, 7))
        single = run(*start, *[(USE, 7, [version]) for version in uses], (ROW, 7), (COUNTERS, 7))
        self.assertEqual(at_once[-2:], single[-2:])
        singles = single[2:-2]
        self.assertEqual(at_once[2][1:3], [sum(told[field] for told in singles) for field in (1, 2)])

    def test_no_uses_at_all(self):
        told = run((TREE, 2, EXAMPLE[0], EXAMPLE[1]), (ADD, 7, 3), (USE, 7, []), (ROW, 7))
        self.assertEqual(told[2:], [[0, 0, 0, 3], [0, 3, 3, 0, 0, 0, 0]])

    def test_moves_when_the_uses_have_cost_twice_the_move(self):
        for factor in (1, 2, 3, 19, 20):
            before = [1] * (2 * factor - 1)
            told = run((TREE, factor, [0], [100]), (ADD, 1, 0), (USE, 1, before), (COUNTERS, 1), (USE, 1, [1]))
            self.assertEqual(told[2:4], [[0, 100 * len(before), 0, 0], [0, 2, 0, factor - 1]])
            self.assertEqual(told[4], [0, 100 + factor * 100, 1, 1])

    def test_a_use_beyond_the_full_counter_changes_nothing_in_it(self):
        told = run((TREE, 1, [0], [1]), (ADD, 1, 0), (USE, 1, [0] * 9), (USE, 1, [1]), (COUNTERS, 1), (USE, 1, [1]))
        self.assertEqual(told[3:], [[0, 1, 0, 0], [0, 2, 0, 0], [0, 2, 1, 1]])

    def test_a_move_may_stop_on_the_way(self):
        # Uses beyond version 0, now on this side and now on that one: version 0 is where all marks point.
        told = run((TREE, 2, [0, 0], [5, 5]), (ADD, 1, 1), (USE, 1, [2, 0, 2, 0]), (ROW, 1))
        self.assertEqual(told[2], [0, 10 + 5 + 10 + 5 + 10, 1, 0])

    def test_rows_do_not_touch_one_another(self):
        told = run((TREE, 1, EXAMPLE[0], EXAMPLE[1]), (ADD, 1, 0), (ADD, 2, 2), (USE, 1, [3, 3]), (ROW, 2), (COUNTERS, 2),
                   (USE, 2, [1, 1]), (ROW, 1))
        self.assertEqual(told[4], [0, 2, 2, 0, 0, 0, 0])
        self.assertEqual(told[5], Model(1, EXAMPLE, 2).counter_fields())
        self.assertEqual(told[7], [0, 3, 0, 15, 1, 5, 2, 3, 3])

    def test_edges_of_the_number_of_uses(self):
        start = [(TREE, 1, [0], [1]), (ADD, 1, 0)]
        self.assertEqual(last(*start, (USE, 1, [0] * 60)), [0, 0, 0, 0])
        self.assertEqual(last(*start, (USE, 1, [0] * 61)), [-1])
        self.assertEqual(last(*start, (USE, 1, [0] * 1200)), [-1])
        told = run(*start, (USE, 1, [0] * 59), (USE, 1, [0, 0]), (USE, 1, [1]), (USE, 1, []), (USE, 1, [0]), (ROW, 1))
        self.assertEqual(told[3:], [[-7], [0, 1, 0, 0], [0, 0, 0, 0], [-7], [0, 0, 0, 1, 0, 1, 60] + [0] * 59 + [1]])
        self.assertEqual(last(*start, (USE, 1, [0]), (USE, 1, [0] * 60)), [-7])

    def test_edges_of_the_versions(self):
        start = [(TREE, 20, [0] * 9, [1] * 9), (ADD, 1, 0)]
        self.assertEqual(last(*start, (USE, 1, [0, 9])), [0, 1, 0, 0])
        for wrong in (10, -1, HUGE, -HUGE):
            self.assertEqual(last(*start, (USE, 1, [0, wrong])), [-1], wrong)
            self.assertEqual(last(*start, (USE, 1, [wrong, 0])), [-1], wrong)
        for versions in ([4], [0, 9], [5, 0]):
            self.assertEqual(last((TREE, 1, EXAMPLE[0], EXAMPLE[1]), (ADD, 1, 0), (USE, 1, versions)), [-4], versions)


class PromisesTest(unittest.TestCase):
    def drive(self, factor, shape, choose):
        """Uses a row 37 times, each time through the version that choose names for the home before."""
        uses = []
        home = 0
        for turn in range(37):
            uses.append(choose(home, turn))
            told = run((TREE, factor, shape[0], shape[1]), (ADD, 1, 0), (USE, 1, uses), (COUNTERS, 1), (ROW, 1))
            home = told[2][3]
            self.check_marks(shape, told[3], home)
            self.assertLessEqual(told[4][3], 3 * told[4][5], (factor, shape, uses))

    def check_marks(self, shape, counters, home):
        """Exactly one version is on the marked side of every edge, and it is the home."""
        model = Model(1, shape)
        model.marked_lower = {edge: counters[2 * edge] == 1 for edge in model.edges}
        self.assertEqual(model.marked_versions(), [home])

    def test_at_most_three_times_the_best_and_one_marked_version(self):
        for factor in FACTORS:
            for shape in SHAPES:
                count = len(shape[0]) + 1
                model = Model(factor, shape)
                self.drive(factor, shape, lambda home, turn: max(range(count), key=lambda v: model.distance(home, v)))
                self.drive(factor, shape, lambda home, turn: (home + 1) % count)
                self.drive(factor, shape, lambda home, turn: (turn // (2 * factor)) % count)


if __name__ == "__main__":
    unittest.main()
