"""The operations: each one makes all its checks first, then does its work and answers its fields."""

from homemoves.limits import check_row, check_tree, check_version, check_versions
from homemoves.refusals import WrongListLength
from homemoves.schedules import best_cost, best_schedule, schedule_cost


class NotBuiltYet(Exception):
    def __init__(self, place):
        self.place = place


def with_length(fields):
    return [len(fields)] + fields


def do_tree(state, numbers, lists):
    check_tree(numbers[0], lists[0], lists[1])
    state.set_tree(numbers[0], lists[0], lists[1])
    return [state.tree.version_count]


def do_distance(state, numbers, lists):
    check_version(numbers[0])
    check_version(numbers[1])
    tree = state.need_tree()
    state.need_versions(numbers)
    return [tree.distance(numbers[0], numbers[1])] + with_length(tree.path(numbers[0], numbers[1]))


def do_add(state, numbers, lists):
    check_row(numbers[0])
    check_version(numbers[1])
    state.need_tree()
    state.need_versions([numbers[1]])
    state.need_place_for_row(numbers[0])
    state.add_row(numbers[0], numbers[1])
    return [len(state.rows)]


def do_use(state, numbers, lists):
    check_row(numbers[0])
    check_versions(lists[0])
    row = state.need_row(numbers[0])
    state.need_versions(lists[0])
    state.need_room_for_uses(row, lists[0])
    cost_before = row.cost
    moves_before = row.moves
    for version in lists[0]:
        row.use(version)
    return [row.cost - cost_before, row.moves - moves_before, row.home]


def do_row(state, numbers, lists):
    check_row(numbers[0])
    row = state.need_row(numbers[0])
    return [row.home, row.first_home, row.cost, row.moves, best_cost(row)] + with_length(row.uses)


def do_counters(state, numbers, lists):
    check_row(numbers[0])
    row = state.need_row(numbers[0])
    pairs = []
    for edge in range(1, row.tree.version_count):
        pairs.append(1 if row.marks[edge] else 0)
        pairs.append(row.counters[edge])
    return with_length(pairs)


def do_schedule_cost(state, numbers, lists):
    check_row(numbers[0])
    check_versions(lists[0])
    row = state.need_row(numbers[0])
    state.need_versions(lists[0])
    if len(lists[0]) != len(row.uses):
        raise WrongListLength()
    return [schedule_cost(row, lists[0])]


def do_best(state, numbers, lists):
    check_row(numbers[0])
    row = state.need_row(numbers[0])
    homes = best_schedule(row)
    return [schedule_cost(row, homes)] + with_length(homes)


# At the place of each operation's number; the calls behind the last one are read, but not built yet.
OPERATIONS = (do_tree, do_distance, do_add, do_use, do_row, do_counters, do_schedule_cost, do_best)


def carry_out(state, place, numbers, lists):
    if place >= len(OPERATIONS):
        raise NotBuiltYet(place)
    return OPERATIONS[place](state, numbers, lists)
