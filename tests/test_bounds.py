"""The calls bound and check_bound."""

import itertools
import random
import unittest

from helper import (BEST, BOUND, CHECK_BOUND, EXAMPLE, FACTORS, HUGE, MIXED, ONE, SHAPES, SMALL_SHAPES, TWO, last,
                    random_shape, random_uses, run, used_model, used_row)

BILLION = 10 ** 9


def side_cost(model, edge, sides, end):
    """What a way of being on the sides of one edge costs there, if it ends on the side end; True is the lower one."""
    length = model.lengths[edge - 1]
    cost = 0
    before = model.first_home in model.lower[edge]
    for side, version in zip(sides, model.uses):
        cost += length * (side != (version in model.lower[edge])) + model.factor * length * (side != before)
        before = side
    return cost + model.factor * length * (before != end)


def searched_values(model):
    """The reported values once more, by a search over all ways of being on the sides of each edge."""
    values = []
    for edge in model.edges:
        for place in range(len(model.uses) + 1):
            ways = list(itertools.product((True, False), repeat=place))
            values += [min(side_cost(model, edge, sides, end) for sides in ways) for end in (True, False)]
    return values


def accepted_values(model, seed):
    """Values that all conditions hold for, somewhere below what they allow."""
    chance = random.Random(seed)
    values = []
    for edge in model.edges:
        length = model.lengths[edge - 1]
        move = model.factor * length
        most = [0, move] if model.first_home in model.lower[edge] else [move, 0]
        for version in [None] + model.uses:
            if version is not None:
                most = [pair[0] + length * (version not in model.lower[edge]),
                        pair[1] + length * (version in model.lower[edge])]
            pair = [value - chance.choice([0, 0, 1, chance.randint(0, move)]) for value in most]
            pair = [min(pair[0], pair[1] + move), min(pair[1], pair[0] + move)]
            values += pair
    return values


class BoundTest(unittest.TestCase):
    def check(self, factor, shape, first_home, uses):
        model = used_model(factor, shape, first_home, uses)
        values = model.reported_values()
        told = run(*used_row(factor, shape, first_home, uses), (BOUND, 4), (CHECK_BOUND, 4, values), (BEST, 4))
        cost = model.best_by_ends()[0]
        self.assertEqual(told[3], [0, cost, len(values)] + values, (factor, shape, first_home, uses))
        self.assertEqual(told[4], [0, 1, cost])
        self.assertEqual(told[5][:2], [0, cost])
        self.assertEqual(model.bound_of(values), cost)

    def test_all_shapes_and_first_homes(self):
        for factor in FACTORS:
            for number, shape in enumerate(SHAPES):
                count = len(shape[0]) + 1
                for first_home in range(count):
                    size = (0, 1, 11, 60)[(number + first_home) % 4]
                    self.check(factor, shape, first_home, random_uses(number * 10 + first_home, count, size))

    def test_other_trees(self):
        for seed in range(100):
            shape = random_shape(seed, 1 + seed % 10, 1 + seed % 7)
            count = len(shape[0]) + 1
            self.check(1 + seed % 20, shape, seed % count, random_uses(seed, count, seed % 61))

    def test_against_a_search_over_all_sides(self):
        for seed in range(60):
            shape = SMALL_SHAPES[seed % len(SMALL_SHAPES)]
            count = len(shape[0]) + 1
            model = used_model(1 + seed % 3, shape, seed % count, random_uses(seed, count, 6))
            told = last(*used_row(model.factor, shape, model.first_home, model.uses), (BOUND, 4))
            self.assertEqual(told[3:], searched_values(model), (seed, shape, model.uses))

    def test_one_version(self):
        self.assertEqual(last(*used_row(20, ONE, 0, [0] * 60), (BOUND, 4)), [0, 0, 0])
        self.assertEqual(last(*used_row(20, ONE, 0, []), (BOUND, 4)), [0, 0, 0])

    def test_no_uses(self):
        self.assertEqual(last(*used_row(20, EXAMPLE, 0, []), (BOUND, 4)), [0, 0, 6, 60, 0, 100, 0, 40, 0])
        self.assertEqual(last(*used_row(20, EXAMPLE, 3, []), (BOUND, 4)), [0, 0, 6, 0, 60, 100, 0, 0, 40])

    def test_ten_versions_and_sixty_uses(self):
        told = last(*used_row(2, MIXED, 9, [0, 9] * 30), (BOUND, 4))
        self.assertEqual(told[2], 9 * 61 * 2)
        self.assertEqual(len(told), 3 + 9 * 61 * 2)
        self.check(2, MIXED, 9, [0, 9] * 30)


class CheckBoundTest(unittest.TestCase):
    # Two edges (lengths 3 and 5), factor 2, first home 0, so the upper side is that of the first home. With these
    # uses (on the lower side of both edges, of the first one alone, of none) all values 0 leave room everywhere.
    SHAPE = ([0, 1], [3, 5])
    USES = [2, 1, 0, 2]
    EDGES = [(1, 3, (1, 2)), (2, 5, (2,))]

    def changed(self, *changes):
        """All values 0, but for (edge, place, side, value), the side being 0 (lower) or 1 (upper)."""
        values = [0] * 20
        for edge, place, side, value in changes:
            values[10 * (edge - 1) + 2 * place + side] = value
        return values

    def asked(self, values):
        told = last(*used_row(2, self.SHAPE, 0, self.USES), (CHECK_BOUND, 4, values))
        self.assertEqual(told, used_model(2, self.SHAPE, 0, self.USES).checked_bound(values), values)
        return told

    def at_the_limit(self, code, edge, place, side, limit):
        """A value at the limit is accepted, and 1 more is not."""
        self.assertEqual(self.asked(self.changed((edge, place, side, limit)))[:2], [0, 1])
        self.assertEqual(self.asked(self.changed((edge, place, side, limit + 1))), [0, 0, edge, place, code])

    def test_zeros_and_a_bound_below_zero(self):
        self.assertEqual(self.asked(self.changed()), [0, 1, 0])
        self.assertEqual(self.asked([-7] * 20), [0, 1, -14])
        self.assertEqual(self.asked([-BILLION] * 20), [0, 1, -2 * BILLION])
        self.assertEqual(self.asked(self.changed((1, 4, 0, -2), (2, 4, 1, 5))), [0, 1, -2])

    def test_code_1_at_both_edges(self):
        for edge, move in ((1, 6), (2, 10)):
            self.at_the_limit(1, edge, 0, 1, 0)
            self.at_the_limit(1, edge, 0, 0, move)
            self.assertEqual(self.asked(self.changed((edge, 0, 0, BILLION))), [0, 0, edge, 0, 1])
            self.assertEqual(self.asked(self.changed((edge, 0, 1, BILLION))), [0, 0, edge, 0, 1])

    def test_code_1_where_the_first_home_is_on_the_lower_side(self):
        start = used_row(2, self.SHAPE, 1, [])
        for values, answer in [
            ([0, 6, 10, 0], [0, 1, 0]), ([-1, 5, 9, -1], [0, 1, -2]), ([6, 0, 10, 0], [0, 0, 1, 0, 1]),
            ([1, 6, 10, 0], [0, 0, 1, 0, 1]), ([0, 7, 10, 0], [0, 0, 1, 0, 1]),
            ([0, 6, 11, 0], [0, 0, 2, 0, 1]), ([0, 6, 10, 1], [0, 0, 2, 0, 1]),
        ]:
            self.assertEqual(last(*start, (CHECK_BOUND, 4, values)), answer, values)

    def test_code_2_at_each_edge_and_place(self):
        for edge, length, lower_side in self.EDGES:
            for place, version in enumerate(self.USES, start=1):
                limit = 0 if version in lower_side else length
                self.at_the_limit(2, edge, place, 0, limit)

    def test_code_3_at_each_edge_and_place(self):
        for edge, length, lower_side in self.EDGES:
            for place, version in enumerate(self.USES, start=1):
                limit = length if version in lower_side else 0
                self.at_the_limit(3, edge, place, 1, limit)

    def test_code_4_at_each_edge_and_place(self):
        for edge, move in ((1, 6), (2, 10)):
            for place in range(5):
                for side in (0, 1):
                    falls = tuple((edge, at, side, -move) for at in range(place, 5))
                    self.assertEqual(self.asked(self.changed(*falls))[:2], [0, 1])
                    falls = tuple((edge, at, side, -move - 1) for at in range(place, 5))
                    self.assertEqual(self.asked(self.changed(*falls)), [0, 0, edge, place, 4])
                    self.assertEqual(self.asked(self.changed((edge, place, side, -BILLION))), [0, 0, edge, place, 4])

    def test_values_that_rise_from_place_to_place(self):
        # Only the place before counts, not the first one: with uses on the lower side the upper value may rise on.
        start = used_row(3, TWO, 0, [1, 1, 1, 1])
        self.assertEqual(last(*start, (CHECK_BOUND, 4, [3, 0, 3, 1, 3, 2, 3, 3, 3, 4])), [0, 1, 3])
        self.assertEqual(last(*start, (CHECK_BOUND, 4, [3, 0, 3, 1, 3, 1, 3, 3, 3, 4])), [0, 0, 1, 3, 3])
        self.assertEqual(last(*start, (CHECK_BOUND, 4, [2, 0, 2, 1, 3, 1, 3, 2, 3, 3])), [0, 0, 1, 2, 2])

    def test_several_conditions_at_once(self):
        code_1 = lambda edge: (edge, 0, 1, 1)
        code_2 = lambda edge, place: (edge, place, 0, 9)
        code_3 = lambda edge, place: (edge, place, 1, 9)
        code_4 = lambda edge, place: (edge, place, 0, -99)
        for changes, answer in [
            ([code_1(2), code_4(1, 4)], [1, 4, 4]),
            ([code_1(2), code_3(1, 2)], [1, 2, 3]),
            ([code_1(1), code_1(2)], [1, 0, 1]),
            ([code_2(1, 3), code_3(1, 2)], [1, 2, 3]),
            ([code_4(2, 1), code_2(2, 3)], [2, 1, 4]),
            ([code_4(2, 2), code_1(2)], [2, 0, 1]),
            ([code_2(1, 3), code_3(1, 3)], [1, 3, 2]),
            ([code_2(2, 4), code_3(2, 4)], [2, 4, 2]),
            ([code_3(1, 3), code_4(1, 3)], [1, 3, 3]),
            ([(1, 3, 0, 9), (1, 3, 1, -99)], [1, 3, 2]),
            ([(2, 0, 0, 11)], [2, 0, 1]),
            ([(1, 0, 1, 1), (1, 0, 0, -99)], [1, 0, 1]),
            ([code_2(1, 4), code_2(2, 1), code_3(2, 1), code_4(2, 2)], [1, 4, 2]),
        ]:
            self.assertEqual(self.asked(self.changed(*changes)), [0, 0] + answer, changes)

    def test_against_the_model(self):
        seen = set()
        for seed in range(400):
            shape = (SHAPES + [random_shape(seed, 1 + seed % 10, 4)])[seed % 10]
            count = len(shape[0]) + 1
            size = (0, 1, 4, 60)[seed % 4]
            model = used_model(FACTORS[seed % 3], shape, seed % count, random_uses(seed, count, size))
            values = model.reported_values() if seed % 2 else accepted_values(model, seed)
            chance = random.Random(seed)
            for change in range(chance.choice([0, 1, 1, 3]) if values else 0):
                values[chance.randrange(len(values))] += chance.choice([-300, -3, -1, 1, 2, 300])
            told = last(*used_row(model.factor, shape, model.first_home, model.uses), (CHECK_BOUND, 4, values))
            self.assertEqual(told, model.checked_bound(values), (seed, shape, values))
            seen.add(told[1] or told[4])
        self.assertEqual(seen, {1, 2, 3, 4})

    def test_accepted_values_bound_the_best_cost(self):
        for seed in range(200):
            shape = SHAPES[seed % len(SHAPES)]
            count = len(shape[0]) + 1
            model = used_model(FACTORS[seed % 3], shape, seed % count, random_uses(seed, count, seed % 13))
            values = accepted_values(model, seed)
            start = used_row(model.factor, shape, model.first_home, model.uses)
            told = run(*start, (CHECK_BOUND, 4, values), (BEST, 4))
            self.assertEqual(told[3], [0, 1, model.bound_of(values)], seed)
            self.assertLessEqual(told[3][2], told[4][1])

    def test_one_version_has_no_values(self):
        for uses in ([], [0] * 60):
            start = used_row(1, ONE, 0, uses)
            self.assertEqual(last(*start, (CHECK_BOUND, 4, [])), [0, 1, 0])
            for size in (1, 2, 122, 1200):
                self.assertEqual(last(*start, (CHECK_BOUND, 4, [0] * size)), [-5])

    def test_two_values_for_each_edge_and_place(self):
        for factor, shape, uses in [(1, TWO, []), (2, EXAMPLE, [1]), (2, MIXED, [0] * 60)]:
            start = used_row(factor, shape, 0, uses)
            size = 2 * len(shape[0]) * (len(uses) + 1)
            for wrong in {0, 1, 2, size - 2, size - 1, size + 1, size + 2, 1200} - {size}:
                self.assertEqual(last(*start, (CHECK_BOUND, 4, [0] * wrong)), [-5], wrong)
            self.assertEqual(last(*start, (CHECK_BOUND, 4, [0] * size)), [0, 1, 0])

    def test_edges_of_the_values(self):
        start = used_row(1, TWO, 0, [])
        self.assertEqual(last(*start, (CHECK_BOUND, 4, [-BILLION, -BILLION])), [0, 1, -BILLION])
        self.assertEqual(last(*start, (CHECK_BOUND, 4, [BILLION, BILLION])), [0, 0, 1, 0, 1])
        for wrong in (BILLION + 1, -BILLION - 1, HUGE, -HUGE):
            for values in ([0, wrong], [wrong, 0], [wrong], [0] * 1199 + [wrong]):
                self.assertEqual(last(*start, (CHECK_BOUND, 4, values)), [-1], wrong)


if __name__ == "__main__":
    unittest.main()
