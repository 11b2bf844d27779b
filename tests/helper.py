"""Hands calls to the program, and works the same things out a second way, straight from the document's words."""

import itertools
import random

from homemoves.keeper import answers

(TREE, DISTANCE, ADD, USE, ROW, COUNTERS, SCHEDULE_COST, BEST, BOUND, CHECK_BOUND, MEDIAN, CHECK_MEDIAN, ASSIGN,
 CHECK_ASSIGNMENT, REMOVE, STATUS) = range(16)
HUGE = 10 ** 18

# (parents, lengths): one version, chains, stars, mixed shapes, up to 10 versions.
ONE = ([], [])
TWO = ([0], [1])
CHAIN = ([0, 1, 2], [3, 1, 2])
LONG_CHAIN = ([0, 1, 2, 3, 4, 5, 6, 7, 8], [1, 100, 3, 2, 7, 1, 1, 50, 4])
STAR = ([0, 0, 0], [1, 2, 1])
BIG_STAR = ([0] * 9, [1, 2, 3, 4, 5, 6, 7, 8, 100])
EXAMPLE = ([0, 0, 1], [3, 5, 2])
MIXED = ([0, 0, 1, 1, 2, 2, 5, 3, 8], [3, 5, 2, 2, 1, 9, 4, 100, 1])
LOW_STAR = ([0, 1, 1, 1, 1], [6, 1, 1, 2, 3])
SHAPES = [ONE, TWO, CHAIN, LONG_CHAIN, STAR, BIG_STAR, EXAMPLE, MIXED, LOW_STAR]
SMALL_SHAPES = [ONE, TWO, CHAIN, STAR, EXAMPLE]
FACTORS = [1, 2, 20]


def flat(*calls):
    """Each call is its number, its whole numbers and its lists, in one tuple."""
    numbers = []
    for call in calls:
        for part in call:
            if isinstance(part, list):
                numbers.append(len(part))
                numbers.extend(part)
            else:
                numbers.append(part)
    return numbers


def parted(told, call_count):
    parts = []
    position = 0
    while position < len(told):
        size = told[position]
        parts.append(told[position + 1:position + 1 + size])
        assert size >= 1 and len(parts[-1]) == size, told
        position += 1 + size
    assert len(parts) == call_count, told
    return parts


def run(*calls):
    """The answers of the calls, each one as a list."""
    told = answers(flat(*calls))
    assert isinstance(told, list) and all(type(number) is int for number in told), told
    return parted(told, len(calls))


def last(*calls):
    return run(*calls)[-1]


class Model:
    """A tree with one row, worked out from the definitions with sets of versions."""

    def __init__(self, factor, shape, first_home=0):
        self.factor = factor
        self.parents, self.lengths = shape
        self.count = len(self.parents) + 1
        self.edges = range(1, self.count)
        self.lower = {edge: self.lower_side(edge) for edge in self.edges}
        self.first_home = self.home = first_home
        self.marked_lower = {edge: first_home in self.lower[edge] for edge in self.edges}
        self.counters = {edge: factor if self.marked_lower[edge] else -factor for edge in self.edges}
        self.uses = []
        self.cost = self.moves = 0

    def lower_side(self, edge):
        side = {edge}
        for version in range(edge + 1, self.count):
            if self.parents[version - 1] in side:
                side.add(version)
        return side

    def distance(self, version, other):
        return sum(self.lengths[edge - 1] for edge in self.edges
                   if (version in self.lower[edge]) != (other in self.lower[edge]))

    def way(self, version, other):
        """Up to the last common one of both ways to version 0, and down again."""
        up, down = [[end] for end in (version, other)]
        for way in (up, down):
            while way[-1] != 0:
                way.append(self.parents[way[-1] - 1])
        meeting = max(set(up) & set(down))
        return up[:up.index(meeting)] + [meeting] + down[:down.index(meeting)][::-1]

    def marked_versions(self):
        return [version for version in range(self.count)
                if all((version in self.lower[edge]) == self.marked_lower[edge] for edge in self.edges)]

    def use(self, version):
        self.uses.append(version)
        self.cost += self.distance(self.home, version)
        for edge in self.edges:
            if version in self.lower[edge]:
                if self.counters[edge] != self.factor:
                    self.counters[edge] += 1
            elif self.counters[edge] != -self.factor:
                self.counters[edge] -= 1
            if self.counters[edge] == self.factor:
                self.marked_lower[edge] = True
            if self.counters[edge] == -self.factor:
                self.marked_lower[edge] = False
        (home,) = self.marked_versions()
        if home != self.home:
            self.cost += self.factor * self.distance(self.home, home)
            self.moves += 1
            self.home = home

    def counter_fields(self):
        fields = []
        for edge in self.edges:
            fields += [int(self.marked_lower[edge]), self.counters[edge]]
        return [0, len(fields)] + fields

    def schedule_cost(self, homes):
        cost = 0
        for before, home, version in zip([self.first_home] + list(homes), homes, self.uses):
            cost += self.factor * self.distance(before, home) + self.distance(home, version)
        return cost

    def best_of_all(self):
        """The first cheapest one of all schedules, one by one in lexicographic order."""
        every = itertools.product(range(self.count), repeat=len(self.uses))
        homes = min(every, key=self.schedule_cost)
        return self.schedule_cost(homes), list(homes)

    def best_by_ends(self):
        """The same for longer rows: the cheapest and first beginning for each home that it may end in."""
        ends = {self.first_home: (0, [])}
        for version in self.uses:
            ends = {home: min((cost + self.factor * self.distance(before, home) + self.distance(home, version),
                               homes + [home]) for before, (cost, homes) in ends.items())
                    for home in range(self.count)}
        return min(ends.values())

    def reported_pairs(self, edge):
        """From the document's words: the lower and the upper value of each place."""
        length = self.lengths[edge - 1]
        move = self.factor * length
        pairs = [(0, move) if self.first_home in self.lower[edge] else (move, 0)]
        for version in self.uses:
            a = pairs[-1][0] + length * (version not in self.lower[edge])
            b = pairs[-1][1] + length * (version in self.lower[edge])
            pairs.append((min(a, b + move), min(b, a + move)))
        return pairs

    def reported_values(self):
        return [value for edge in self.edges for pair in self.reported_pairs(edge) for value in pair]

    def pairs_of(self, values, edge):
        first = 2 * (edge - 1) * (len(self.uses) + 1)
        own = values[first:first + 2 * (len(self.uses) + 1)]
        return list(zip(own[::2], own[1::2]))

    def bound_of(self, values):
        return sum(min(self.pairs_of(values, edge)[-1]) for edge in self.edges)

    def all_broken(self, values):
        """Each condition that does not hold, as (edge, place, code)."""
        broken = set()
        for edge in self.edges:
            length = self.lengths[edge - 1]
            move = self.factor * length
            for place, (lower, upper) in enumerate(self.pairs_of(values, edge)):
                if place == 0:
                    home, other = (lower, upper) if self.first_home in self.lower[edge] else (upper, lower)
                    if not (home <= 0 and other <= move):
                        broken.add((edge, 0, 1))
                else:
                    lower_before, upper_before = self.pairs_of(values, edge)[place - 1]
                    use_is_lower = self.uses[place - 1] in self.lower[edge]
                    if not lower <= lower_before + (0 if use_is_lower else length):
                        broken.add((edge, place, 2))
                    if not upper <= upper_before + (length if use_is_lower else 0):
                        broken.add((edge, place, 3))
                if not (lower <= upper + move and upper <= lower + move):
                    broken.add((edge, place, 4))
        return broken

    def checked_bound(self, values):
        broken = self.all_broken(values)
        return [0, 0] + list(min(broken)) if broken else [0, 1, self.bound_of(values)]

    def fixed_cost(self, home, weights):
        return sum(weight * self.distance(home, version) for version, weight in enumerate(weights))

    def median(self, weights):
        return min((self.fixed_cost(home, weights), home) for home in range(self.count))

    def neighbours(self, version):
        return sorted({edge for edge in self.edges if self.parents[edge - 1] == version}
                      | ({self.parents[version - 1]} if version else set()))

    def checked_median(self, version, weights):
        for neighbour in self.neighbours(version):
            beyond = sum(weight for other, weight in enumerate(weights)
                         if self.distance(other, neighbour) < self.distance(other, version))
            if beyond * 2 > sum(weights):
                return [0, 0, neighbour, beyond]
        return [0, 1]

    def row_costs(self):
        return [sum(self.distance(home, version) for version in self.uses) for home in range(self.count)]


def used_row(factor, shape, first_home, uses):
    return [(TREE, factor, shape[0], shape[1]), (ADD, 4, first_home), (USE, 4, uses)]


def used_model(factor, shape, first_home, uses):
    model = Model(factor, shape, first_home)
    for version in uses:
        model.use(version)
    return model


def homes_cost(costs, homes):
    return sum(row_costs[home] for row_costs, home in zip(costs, homes))


def within(homes, limits):
    return all(homes.count(version) <= limit for version, limit in enumerate(limits))


def best_of_all_homes(costs, limits):
    """The first cheapest one of all assignments within the limits, one by one in lexicographic order."""
    every = [homes for homes in itertools.product(range(len(limits)), repeat=len(costs)) if within(homes, limits)]
    homes = min(every, key=lambda homes: homes_cost(costs, homes))
    return homes_cost(costs, homes), list(homes)


def best_by_room(costs, limits):
    """The same for more rows: row by row, the cheapest and first homes for each room that may be left."""
    ends = {tuple(limits): (0, [])}
    for row_costs in costs:
        later = {}
        for room, (cost, homes) in ends.items():
            for home in range(len(limits)):
                if room[home] > 0:
                    left = room[:home] + (room[home] - 1,) + room[home + 1:]
                    found = (cost + row_costs[home], homes + [home])
                    later[left] = min(later.get(left, found), found)
        ends = later
    return min(ends.values())


def prices_by(search, costs, limits):
    least = search(costs, limits)[0]
    return [least - search(costs, [limit + (version == other) for other, limit in enumerate(limits)])[0]
            for version in range(len(limits))]


def assigned(search, costs, limits):
    """What assign is to answer, by one of the searches."""
    cost, homes = search(costs, limits)
    return [0, cost, len(homes)] + homes + [len(limits)] + prices_by(search, costs, limits)


def checked_assignment(costs, limits, homes, prices):
    broken = {(1, version) for version, limit in enumerate(limits) if list(homes).count(version) > limit}
    broken |= {(2, version) for version, limit in enumerate(limits)
               if prices[version] > 0 and not list(homes).count(version) >= limit}
    broken |= {(3, place) for place, home in enumerate(homes) for other in range(len(limits))
               if costs[place][other] + prices[other] < costs[place][home] + prices[home]}
    return [0, 0] + list(min(broken)) if broken else [0, 1, homes_cost(costs, homes)]


def random_uses(seed, version_count, size):
    """Uses in runs of one version and in jumps, so that rows stay, move once, or move again and again."""
    chance = random.Random(seed)
    longest = chance.choice([1, 3, 12, 45])
    uses = []
    while len(uses) < size:
        uses += [chance.randrange(version_count)] * chance.randint(1, longest)
    return uses[:size]


def random_shape(seed, version_count, longest=100):
    chance = random.Random(seed)
    parents = [chance.randint(0, place) for place in range(version_count - 1)]
    return parents, [chance.randint(1, longest) for place in parents]


# What each call is handed, and the limits of it: least and greatest, and ahead of them the most numbers of a list.
ARGUMENTS = {TREE: ("factor", "parents", "lengths"), DISTANCE: ("version", "other"), ADD: ("row", "version"),
             USE: ("row", "versions"), ROW: ("row",), COUNTERS: ("row",), SCHEDULE_COST: ("row", "versions"),
             BEST: ("row",), BOUND: ("row",), CHECK_BOUND: ("row", "values"), MEDIAN: ("weights",),
             CHECK_MEDIAN: ("version", "weights"), ASSIGN: ("limits",),
             CHECK_ASSIGNMENT: ("limits", "homes", "prices"), REMOVE: ("row",), STATUS: ()}
NUMBERS = {"factor": (1, 20), "version": (0, 9), "other": (0, 9), "row": (1, 9999)}
LISTS = {"parents": (9, 0, 8), "lengths": (9, 1, 100), "versions": (60, 0, 9), "homes": (12, 0, 9),
         "values": (1200, -10 ** 9, 10 ** 9), "weights": (10, 0, 1000), "limits": (10, 0, 12),
         "prices": (10, 0, 10 ** 9)}


def is_outside(name, given):
    if name in NUMBERS:
        least, greatest = NUMBERS[name]
        return not least <= given <= greatest
    most, least, greatest = LISTS[name]
    return len(given) > most or any(not least <= number <= greatest for number in given)


class Reference:
    """Answers all sixteen calls from the document's words, each row by a Model of its own."""

    def __init__(self):
        self.tree = None
        self.rows = {}

    def answer(self, call):
        place, given = call[0], call[1:]
        if any(is_outside(name, part) for name, part in zip(ARGUMENTS[place], given, strict=True)):
            return [-1]
        if place == TREE and (len(given[1]) != len(given[2]) or any(p > at for at, p in enumerate(given[1]))):
            return [-1]
        if self.tree is None and place not in (TREE, STATUS):
            return [-2]
        if place in (USE, ROW, COUNTERS, SCHEDULE_COST, BEST, BOUND, CHECK_BOUND, REMOVE) and given[0] not in self.rows:
            return [-3]
        if any(version >= self.tree.count for version in self.versions_of(place, given)):
            return [-4]
        if any(len(numbers) != size for numbers, size in self.sizes(place, given)):
            return [-5]
        if place == ADD and (given[0] in self.rows or len(self.rows) == 12):
            return [-6]
        if place == USE and len(self.rows[given[0]].uses) + len(given[1]) > 60:
            return [-7]
        if place == ASSIGN and sum(given[0]) < len(self.rows):
            return [-8]
        return self.fields(place, *given)

    def versions_of(self, place, given):
        if place == DISTANCE:
            return given
        if place == CHECK_MEDIAN:
            return given[:1]
        if place == ADD:
            return given[1:]
        if place in (USE, SCHEDULE_COST, CHECK_ASSIGNMENT):
            return given[1]
        return []

    def sizes(self, place, given):
        """Each list with a size that it must have, if the call names -5."""
        if place == SCHEDULE_COST:
            return [(given[1], len(self.rows[given[0]].uses))]
        if place == CHECK_BOUND:
            return [(given[1], 2 * (self.tree.count - 1) * (len(self.rows[given[0]].uses) + 1))]
        if place in (MEDIAN, CHECK_MEDIAN, ASSIGN):
            return [(given[-1], self.tree.count)]
        if place == CHECK_ASSIGNMENT:
            return [(given[0], self.tree.count), (given[1], len(self.rows)), (given[2], self.tree.count)]
        return []

    def costs(self):
        return [self.rows[number].row_costs() for number in sorted(self.rows)]

    def fields(self, place, *given):
        if place == TREE:
            self.tree, self.rows = Model(given[0], given[1:]), {}
            return [0, self.tree.count]
        if place == DISTANCE:
            way = self.tree.way(*given)
            return [0, self.tree.distance(*given), len(way)] + way
        if place == ADD:
            self.rows[given[0]] = Model(self.tree.factor, (self.tree.parents, self.tree.lengths), given[1])
            return [0, len(self.rows)]
        if place == REMOVE:
            del self.rows[given[0]]
            return [0, len(self.rows)]
        if place == MEDIAN:
            cost, home = self.tree.median(given[0])
            return [0, home, cost]
        if place == CHECK_MEDIAN:
            return self.tree.checked_median(*given)
        if place == ASSIGN:
            return assigned(best_by_room, self.costs(), given[0])
        if place == CHECK_ASSIGNMENT:
            return checked_assignment(self.costs(), *given)
        if place == STATUS:
            rows = [field for number in sorted(self.rows)
                    for field in (number, self.rows[number].home, len(self.rows[number].uses))]
            return [0, self.tree.count, self.tree.factor, len(self.rows)] + rows if self.tree else [0, 0]
        return self.fields_of_row(place, self.rows[given[0]], *given[1:])

    def fields_of_row(self, place, row, *given):
        if place == USE:
            cost, moves = row.cost, row.moves
            for version in given[0]:
                row.use(version)
            return [0, row.cost - cost, row.moves - moves, row.home]
        if place == ROW:
            best = row.best_by_ends()[0]
            return [0, row.home, row.first_home, row.cost, row.moves, best, len(row.uses)] + row.uses
        if place == COUNTERS:
            return row.counter_fields()
        if place == SCHEDULE_COST:
            return [0, row.schedule_cost(given[0])]
        if place == BEST:
            cost, homes = row.best_by_ends()
            return [0, cost, len(homes)] + homes
        if place == BOUND:
            values = row.reported_values()
            return [0, row.best_by_ends()[0], len(values)] + values
        return row.checked_bound(given[0])
