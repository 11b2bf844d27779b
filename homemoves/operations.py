"""The operations: each one makes all its checks first, then does its work and answers its fields."""

from homemoves.assignments import assignment_cost, best_homes, broken_in_assignment, costs_of_row, version_prices
from homemoves.bounds import bound_of_values, broken_in_values, reported_values, value_count
from homemoves.limits import (check_homes_of_rows, check_prices, check_row, check_tree, check_values, check_version,
                              check_version_limits, check_versions, check_weights)
from homemoves.medians import better_side, weighted_costs
from homemoves.refusals import WrongListLength
from homemoves.schedules import best_cost, best_schedule, schedule_cost


def with_length(fields):
    return [len(fields)] + fields


def need_length(numbers, size):
    if len(numbers) != size:
        raise WrongListLength()


def do_tree(state, numbers, lists):
    check_tree(numbers[0], lists[0], lists[1])
    state.set_tree(numbers[0], lists[0], lists[1])
    return [state.tree.version_count]


def do_distance(state, numbers, lists):
    check_version(numbers[0])
    check_version(numbers[1])
    tree = state.need_tree()
    state.need_versions(numbers)
    return [tree.distance(numbers[0], numbers[1])] + with_length(tree.path(numbers[0], numbers[1]))


def do_add(state, numbers, lists):
    check_row(numbers[0])
    check_version(numbers[1])
    state.need_tree()
    state.need_versions([numbers[1]])
    state.need_place_for_row(numbers[0])
    state.add_row(numbers[0], numbers[1])
    return [len(state.rows)]


def do_use(state, numbers, lists):
    check_row(numbers[0])
    check_versions(lists[0])
    row = state.need_row(numbers[0])
    state.need_versions(lists[0])
    state.need_room_for_uses(row, lists[0])
    cost_before = row.cost
    moves_before = row.moves
    for version in lists[0]:
        row.use(version)
    return [row.cost - cost_before, row.moves - moves_before, row.home]


def do_row(state, numbers, lists):
    check_row(numbers[0])
    row = state.need_row(numbers[0])
    return [row.home, row.first_home, row.cost, row.moves, best_cost(row)] + with_length(row.uses)


def do_counters(state, numbers, lists):
    check_row(numbers[0])
    row = state.need_row(numbers[0])
    pairs = []
    for edge in range(1, row.tree.version_count):
        pairs.append(1 if row.marks[edge] else 0)
        pairs.append(row.counters[edge])
    return with_length(pairs)


def do_schedule_cost(state, numbers, lists):
    check_row(numbers[0])
    check_versions(lists[0])
    row = state.need_row(numbers[0])
    state.need_versions(lists[0])
    need_length(lists[0], len(row.uses))
    return [schedule_cost(row, lists[0])]


def do_best(state, numbers, lists):
    check_row(numbers[0])
    row = state.need_row(numbers[0])
    homes = best_schedule(row)
    return [schedule_cost(row, homes)] + with_length(homes)


def do_bound(state, numbers, lists):
    check_row(numbers[0])
    row = state.need_row(numbers[0])
    values = reported_values(row)
    return [bound_of_values(row, values)] + with_length(values)


def do_check_bound(state, numbers, lists):
    check_row(numbers[0])
    check_values(lists[0])
    row = state.need_row(numbers[0])
    need_length(lists[0], value_count(row))
    broken = broken_in_values(row, lists[0])
    if len(broken) > 0:
        return [0] + broken
    return [1, bound_of_values(row, lists[0])]


def do_median(state, numbers, lists):
    check_weights(lists[0])
    tree = state.need_tree()
    need_length(lists[0], tree.version_count)
    costs = weighted_costs(tree, lists[0])
    return [costs.index(min(costs)), min(costs)]


def do_check_median(state, numbers, lists):
    check_version(numbers[0])
    check_weights(lists[0])
    tree = state.need_tree()
    state.need_versions(numbers)
    need_length(lists[0], tree.version_count)
    better = better_side(tree, lists[0], numbers[0])
    if len(better) > 0:
        return [0] + better
    return [1]


def do_assign(state, numbers, lists):
    limits = lists[0]
    check_version_limits(limits)
    tree = state.need_tree()
    need_length(limits, tree.version_count)
    state.need_room_for_rows(limits)
    costs = [costs_of_row(row) for row in state.rows_in_order()]
    homes = best_homes(costs, limits)
    return [assignment_cost(costs, homes)] + with_length(homes) + with_length(version_prices(costs, limits))


def do_check_assignment(state, numbers, lists):
    limits = lists[0]
    homes = lists[1]
    prices = lists[2]
    check_version_limits(limits)
    check_homes_of_rows(homes)
    check_prices(prices)
    tree = state.need_tree()
    state.need_versions(homes)
    need_length(limits, tree.version_count)
    need_length(prices, tree.version_count)
    need_length(homes, len(state.rows))
    costs = [costs_of_row(row) for row in state.rows_in_order()]
    broken = broken_in_assignment(costs, limits, homes, prices)
    if len(broken) > 0:
        return [0] + broken
    return [1, assignment_cost(costs, homes)]


def do_remove(state, numbers, lists):
    check_row(numbers[0])
    state.need_row(numbers[0])
    state.remove_row(numbers[0])
    return [len(state.rows)]


def do_status(state, numbers, lists):
    if state.tree is None:
        return [0]
    fields = [state.tree.version_count, state.tree.factor, len(state.rows)]
    for number in sorted(state.rows):
        fields.extend([number, state.rows[number].home, len(state.rows[number].uses)])
    return fields


# At the place of each operation's number.
OPERATIONS = (do_tree, do_distance, do_add, do_use, do_row, do_counters, do_schedule_cost, do_best,
              do_bound, do_check_bound, do_median, do_check_median, do_assign, do_check_assignment,
              do_remove, do_status)


def carry_out(state, place, numbers, lists):
    return OPERATIONS[place](state, numbers, lists)
