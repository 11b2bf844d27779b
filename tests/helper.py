"""Hands calls to the program, and works the same things out a second way, straight from the document's words."""

import itertools
import random

from homemoves.keeper import answers

TREE, DISTANCE, ADD, USE, ROW, COUNTERS, SCHEDULE_COST, BEST = range(8)
HUGE = 10 ** 18

# (parents, lengths): one version, chains, stars, mixed shapes, up to 10 versions.
ONE = ([], [])
TWO = ([0], [1])
CHAIN = ([0, 1, 2], [3, 1, 2])
LONG_CHAIN = ([0, 1, 2, 3, 4, 5, 6, 7, 8], [1, 100, 3, 2, 7, 1, 1, 50, 4])
STAR = ([0, 0, 0], [1, 2, 1])
BIG_STAR = ([0] * 9, [1, 2, 3, 4, 5, 6, 7, 8, 100])
EXAMPLE = ([0, 0, 1], [3, 5, 2])
MIXED = ([0, 0, 1, 1, 2, 2, 5, 3, 8], [3, 5, 2, 2, 1, 9, 4, 100, 1])
LOW_STAR = ([0, 1, 1, 1, 1], [6, 1, 1, 2, 3])
SHAPES = [ONE, TWO, CHAIN, LONG_CHAIN, STAR, BIG_STAR, EXAMPLE, MIXED, LOW_STAR]
SMALL_SHAPES = [ONE, TWO, CHAIN, STAR, EXAMPLE]
FACTORS = [1, 2, 20]


def flat(*calls):
    """Each call is its number, its whole numbers and its lists, in one tuple."""
    numbers = []
    for call in calls:
        for part in call:
            if isinstance(part, list):
                numbers.append(len(part))
                numbers.extend(part)
            else:
                numbers.append(part)
    return numbers


def parted(told, call_count):
    parts = []
    position = 0
    while position < len(told):
        size = told[position]
        parts.append(told[position + 1:position + 1 + size])
        assert size >= 1 and len(parts[-1]) == size, told
        position += 1 + size
    assert len(parts) == call_count, told
    return parts


def run(*calls):
    """The answers of the calls, each one as a list."""
    told = answers(flat(*calls))
    assert isinstance(told, list) and all(type(number) is int for number in told), told
    return parted(told, len(calls))


def last(*calls):
    return run(*calls)[-1]


class Model:
    """A tree with one row, worked out from the definitions with sets of versions."""

    def __init__(self, factor, shape, first_home=0):
        self.factor = factor
        self.parents, self.lengths = shape
        self.count = len(self.parents) + 1
        self.edges = range(1, self.count)
        self.lower = {edge: self.lower_side(edge) for edge in self.edges}
        self.first_home = self.home = first_home
        self.marked_lower = {edge: first_home in self.lower[edge] for edge in self.edges}
        self.counters = {edge: factor if self.marked_lower[edge] else -factor for edge in self.edges}
        self.uses = []
        self.cost = self.moves = 0

    def lower_side(self, edge):
        side = {edge}
        for version in range(edge + 1, self.count):
            if self.parents[version - 1] in side:
                side.add(version)
        return side

    def distance(self, version, other):
        return sum(self.lengths[edge - 1] for edge in self.edges
                   if (version in self.lower[edge]) != (other in self.lower[edge]))

    def marked_versions(self):
        return [version for version in range(self.count)
                if all((version in self.lower[edge]) == self.marked_lower[edge] for edge in self.edges)]

    def use(self, version):
        self.uses.append(version)
        self.cost += self.distance(self.home, version)
        for edge in self.edges:
            if version in self.lower[edge]:
                if self.counters[edge] != self.factor:
                    self.counters[edge] += 1
            elif self.counters[edge] != -self.factor:
                self.counters[edge] -= 1
            if self.counters[edge] == self.factor:
                self.marked_lower[edge] = True
            if self.counters[edge] == -self.factor:
                self.marked_lower[edge] = False
        (home,) = self.marked_versions()
        if home != self.home:
            self.cost += self.factor * self.distance(self.home, home)
            self.moves += 1
            self.home = home

    def counter_fields(self):
        fields = []
        for edge in self.edges:
            fields += [int(self.marked_lower[edge]), self.counters[edge]]
        return [0, len(fields)] + fields

    def schedule_cost(self, homes):
        cost = 0
        for before, home, version in zip([self.first_home] + list(homes), homes, self.uses):
            cost += self.factor * self.distance(before, home) + self.distance(home, version)
        return cost

    def best_of_all(self):
        """The first cheapest one of all schedules, one by one in lexicographic order."""
        every = itertools.product(range(self.count), repeat=len(self.uses))
        homes = min(every, key=self.schedule_cost)
        return self.schedule_cost(homes), list(homes)

    def best_by_ends(self):
        """The same for longer rows: the cheapest and first beginning for each home that it may end in."""
        ends = {self.first_home: (0, [])}
        for version in self.uses:
            ends = {home: min((cost + self.factor * self.distance(before, home) + self.distance(home, version),
                               homes + [home]) for before, (cost, homes) in ends.items())
                    for home in range(self.count)}
        return min(ends.values())


def random_uses(seed, version_count, size):
    """Uses in runs of one version and in jumps, so that rows stay, move once, or move again and again."""
    chance = random.Random(seed)
    longest = chance.choice([1, 3, 12, 45])
    uses = []
    while len(uses) < size:
        uses += [chance.randrange(version_count)] * chance.randint(1, longest)
    return uses[:size]


def random_shape(seed, version_count, longest=100):
    chance = random.Random(seed)
    parents = [chance.randint(0, place) for place in range(version_count - 1)]
    return parents, [chance.randint(1, longest) for place in parents]
