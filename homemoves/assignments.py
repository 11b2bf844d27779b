"""Fixed homes of all rows within the limits of the versions, and prices that prove them cheapest.

The costs are a list for each row, in the order of the rows' numbers, with the cost of each version as its home.
"""


def home_cost(tree, uses, home):
    return sum([tree.distance(home, version) for version in uses])


def costs_of_row(row):
    return [home_cost(row.tree, row.uses, home) for home in range(row.tree.version_count)]


def assignment_cost(costs, homes):
    return sum([row_costs[home] for row_costs, home in zip(costs, homes)])


def with_ranks(costs):
    # Behind each cost stands, like a number's digits, the place of the homes in lexicographic order:
    # so there is exactly one cheapest assignment, and that's the first one.
    scale = 1
    for row_costs in costs:
        scale *= len(row_costs)
    ranked = []
    digit = scale
    for row_costs in costs:
        digit //= len(row_costs)
        ranked.append([cost * scale + home * digit for home, cost in enumerate(row_costs)])
    return ranked


# For each version, the least cost of giving it one row more by placing the next row, and which row moves in at last.
# A way is a chain: the next row takes a home, a row from there takes another one, and so on.
def cheapest_ways(costs, homes):
    # The homes so far are the cheapest ones, so no chain gets cheaper by coming back to a version:
    # after as many turns as there are versions no way can change any more.
    newcomer = len(homes)
    ways = [(cost, newcomer) for cost in costs[newcomer]]
    for turn in range(len(costs[newcomer])):
        for row, home in enumerate(homes):
            for version, cost in enumerate(costs[row]):
                changed = ways[home][0] + cost - costs[row][home]
                if changed < ways[version][0]:
                    ways[version] = (changed, row)
    return ways


def with_next_row(costs, limits, homes):
    ways = cheapest_ways(costs, homes)
    free = [version for version, limit in enumerate(limits) if homes.count(version) < limit]
    target = min([(ways[version][0], version) for version in free])[1]
    changed = homes + [target]
    while ways[target][1] < len(homes):
        mover = ways[target][1]
        changed[mover] = target
        target = homes[mover]
    changed[-1] = target
    return changed


def best_homes(costs, limits):
    ranked = with_ranks(costs)
    homes = []
    while len(homes) < len(costs):
        homes = with_next_row(ranked, limits, homes)
    return homes


def least_cost(costs, limits):
    return assignment_cost(costs, best_homes(costs, limits))


def least_cost_with_more(costs, limits, version):
    wider = list(limits)
    wider[version] += 1
    return least_cost(costs, wider)


def version_prices(costs, limits):
    least = least_cost(costs, limits)
    return [least - least_cost_with_more(costs, limits, version) for version in range(len(limits))]


# The code of the first condition that does not hold and its version or row, or an empty list.
def broken_in_assignment(costs, limits, homes, prices):
    counts = [homes.count(version) for version in range(len(limits))]
    for version, limit in enumerate(limits):
        if counts[version] > limit:
            return [1, version]
    for version, limit in enumerate(limits):
        if prices[version] > 0 and counts[version] < limit:
            return [2, version]
    for place, home in enumerate(homes):
        sums = [cost + price for cost, price in zip(costs[place], prices)]
        if min(sums) < sums[home]:
            return [3, place]
    return []
