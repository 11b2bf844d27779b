"""All sixteen calls in any order, in lists of up to 40 calls, against the reference in helper."""

import random
import unittest

from helper import (ADD, ASSIGN, BEST, BIG_STAR, BOUND, CHECK_ASSIGNMENT, CHECK_BOUND, CHECK_MEDIAN, COUNTERS, DISTANCE,
                    HUGE, MEDIAN, REMOVE, ROW, SCHEDULE_COST, STATUS, TREE, USE, Reference, best_by_room, flat, parted,
                    prices_by, random_shape, random_uses, run)
from homemoves.keeper import answers


class Caller:
    """Makes up calls, most of them fit for what the reference has, some of them not."""

    def __init__(self, seed, wrong_in):
        self.chance = random.Random(seed)
        self.wrong_in = wrong_in
        self.reference = Reference()
        self.assigns = 0

    def wrong(self):
        return self.wrong_in > 0 and self.chance.randrange(self.wrong_in) == 0

    def count(self):
        return self.reference.tree.count if self.reference.tree else 3

    def number(self, fitting):
        if not self.wrong():
            return fitting
        return self.chance.choice([-1, 0, self.count(), 9, 10, 20, 21, 9999, 10000, HUGE, -HUGE])

    def numbers(self, fitting):
        numbers = list(fitting)
        if self.wrong():
            numbers = numbers[:-1] if self.chance.random() < 0.5 else numbers + [0] * self.chance.choice([1, 1, 1, 60])
        if numbers and self.wrong():
            numbers[self.chance.randrange(len(numbers))] = self.chance.choice(
                [-1, self.count(), self.count(), 9, 10, 13, 101, 1001, 10 ** 9 + 1, -10 ** 9 - 1, HUGE, -HUGE])
        return numbers

    def version(self):
        return self.number(self.chance.randrange(self.count()))

    def row(self):
        known = list(self.reference.rows) or [5]
        return self.number(self.chance.choice(known))

    def model(self, row):
        return self.reference.rows.get(row)

    def limits(self):
        limits = [0] * self.count()
        for place in range(max(0, len(self.reference.rows) + self.chance.choice([-1, 0, 0, 1, 2]))):
            limits[self.chance.randrange(self.count())] += 1
        return self.numbers(min(limit, 12) for limit in limits)

    def weights(self):
        most = self.chance.choice([0, 1, 3, 1000])
        return self.numbers(self.chance.randint(0, most) for version in range(self.count()))

    def values(self, row):
        model = self.model(row)
        values = model.reported_values() if model else [0, 0]
        if values and self.chance.random() < 0.5:
            values[self.chance.randrange(len(values))] += self.chance.choice([-50, -1, 1, 50])
        return self.numbers(values)

    def assignment(self):
        limits = self.limits()
        costs = self.reference.costs()
        if len(limits) == self.count() and len(costs) <= sum(limits) <= 20 and self.chance.random() < 0.7:
            homes = best_by_room(costs, limits)[1]
            prices = prices_by(best_by_room, costs, limits)
        else:
            homes = [self.chance.randrange(self.count()) for row in costs]
            prices = [self.chance.choice([0, 0, 1, 50]) for version in range(self.count())]
        return limits, self.numbers(homes), self.numbers(prices)

    def call(self, place):
        if place == TREE:
            count, longest = self.chance.randint(1, 10), self.chance.choice([1, 4, 100])
            parents, lengths = random_shape(self.chance.random(), count, longest)
            return (TREE, self.number(self.chance.randint(1, 3)), self.numbers(parents), self.numbers(lengths))
        if place == DISTANCE:
            return (DISTANCE, self.version(), self.version())
        if place == ADD:
            return (ADD, self.number(self.chance.randint(1, 30)), self.version())
        if place == MEDIAN:
            return (MEDIAN, self.weights())
        if place == CHECK_MEDIAN:
            return (CHECK_MEDIAN, self.version(), self.weights())
        if place == ASSIGN:
            return (ASSIGN, self.limits())
        if place == CHECK_ASSIGNMENT:
            return (CHECK_ASSIGNMENT, *self.assignment())
        if place == STATUS:
            return (STATUS,)
        return self.call_of_row(place, self.row())

    def call_of_row(self, place, row):
        if place == USE:
            uses = random_uses(self.chance.random(), self.count(), self.chance.choice([0, 1, 4, 9, 30]))
            return (USE, row, self.numbers(uses))
        if place == SCHEDULE_COST:
            size = len(self.model(row).uses) if self.model(row) else 2
            return (SCHEDULE_COST, row, self.numbers(self.chance.randrange(self.count()) for use in range(size)))
        if place == CHECK_BOUND:
            return (CHECK_BOUND, row, self.values(row))
        return (place, row)

    def next_call(self, anywhere):
        # A new tree takes all rows away, so there is one at the beginning and seldom again.
        place = self.chance.choice([ADD, ADD, USE, USE] + list(range(1, 16)) + [TREE] * (self.chance.random() < 0.1))
        if place == ASSIGN and self.assigns == 4:
            place = STATUS
        self.assigns += place == ASSIGN
        return self.call(TREE if anywhere else place)


class WholeTest(unittest.TestCase):
    def check(self, seed, wrong_in):
        caller = Caller(seed, wrong_in)
        calls, expected = [], []
        for turn in range(caller.chance.choice([1, 7, 40, 40, 40])):
            call = caller.next_call(turn == 0 and seed % 10 != 0)
            if len(flat(*calls, call)) > 16000:
                break
            calls.append(call)
            expected.append(caller.reference.answer(call))
        handed = flat(*calls)
        kept = list(handed)
        told = parted(answers(handed), len(calls))
        self.assertEqual(handed, kept)
        for call, answer, wanted in zip(calls, told, expected, strict=True):
            self.assertEqual(answer, wanted, (seed, wrong_in, call))
        self.seen |= {(call[0], answer[0]) for call, answer in zip(calls, told)}

    def test_lists_of_calls(self):
        self.seen = set()
        for seed in range(60):
            self.check(seed, 0)
        for seed in range(150):
            self.check(seed, 40)
        for seed in range(250):
            self.check(seed, 8)
        # Each call was carried out, and met each error that it names.
        with_row = {(place, -3) for place in (USE, ROW, COUNTERS, SCHEDULE_COST, BEST, BOUND, CHECK_BOUND, REMOVE)}
        own = {(DISTANCE, -4), (ADD, -4), (ADD, -6), (USE, -4), (USE, -7), (SCHEDULE_COST, -4), (SCHEDULE_COST, -5),
               (CHECK_BOUND, -5), (MEDIAN, -5), (CHECK_MEDIAN, -4), (CHECK_MEDIAN, -5), (ASSIGN, -5), (ASSIGN, -8),
               (CHECK_ASSIGNMENT, -4), (CHECK_ASSIGNMENT, -5)}
        no_tree = {(place, -2) for place in range(1, 15)}
        outside = {(place, -1) for place in range(15)}
        done = {(place, 0) for place in range(16)}
        self.assertEqual(self.seen, done | outside | no_tree | with_row | own)

    def test_the_longest_lists(self):
        # 40 calls on twelve rows of 60 uses in ten versions, with 4 calls of assign among them.
        calls = [(TREE, 20, BIG_STAR[0], BIG_STAR[1])]
        for row in range(1, 13):
            calls += [(ADD, row, row % 10), (USE, row, random_uses(row, 10, 60))]
        calls += [(ASSIGN, [12] * 10), (ASSIGN, [2] * 7 + [0] * 3), (ASSIGN, [12] + [0] * 9),
                  (ASSIGN, [0, 0, 1, 1, 2, 2, 2, 2, 1, 1])]
        calls += [(BOUND, row) for row in range(1, 10)] + [(ROW, 10), (STATUS,)]
        reference = Reference()
        for call, answer in zip(calls, run(*calls), strict=True):
            if call[0] != ASSIGN or sum(call[1]) < 30:
                self.assertEqual(answer, reference.answer(call), call)
        costs = reference.costs()
        wide = run(*calls)[25]
        self.assertEqual(wide[3:15], [row_costs.index(min(row_costs)) for row_costs in costs])
        self.assertEqual(wide[1], sum(min(row_costs) for row_costs in costs))
        self.assertEqual(wide[15:], [10] + [0] * 10)
        self.assertEqual(len(calls), 40)

    def test_nothing_but_numbers_far_outside(self):
        for number in (HUGE, -HUGE):
            many = [number] * 1200
            calls = [(TREE, number, many, many), (DISTANCE, number, number), (ADD, number, number), (USE, number, many),
                     (SCHEDULE_COST, number, many), (CHECK_BOUND, number, many), (MEDIAN, many),
                     (CHECK_MEDIAN, number, many), (ASSIGN, many), (CHECK_ASSIGNMENT, many, many, many),
                     (REMOVE, number), (ROW, number)]
            self.assertEqual(run(*calls), [[-1]] * 12)
            self.assertEqual(run((TREE, 1, [0], [1]), *calls, (STATUS,))[1:], [[-1]] * 12 + [[0, 2, 1, 0]])


if __name__ == "__main__":
    unittest.main()
