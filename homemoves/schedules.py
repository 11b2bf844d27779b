"""Schedules for the uses of a row: what one costs, and which is the best."""


def step_cost(tree, before, home, version):
    return tree.factor * tree.distance(before, home) + tree.distance(home, version)


def schedule_cost(row, homes):
    cost = 0
    before = row.first_home
    for home, version in zip(homes, row.uses):
        cost += step_cost(row.tree, before, home, version)
        before = home
    return cost


def costs_from(tree, before, version, later):
    return [step_cost(tree, before, home, version) + later[home] for home in range(tree.version_count)]


def least_costs(tree, uses):
    # One list for each place, and in it, for each home before this place, the least cost of all uses from there on.
    later = [0 for home in range(tree.version_count)]
    backwards = [later]
    for version in reversed(uses):
        later = [min(costs_from(tree, before, version, later)) for before in range(tree.version_count)]
        backwards.append(later)
    backwards.reverse()
    return backwards


def best_cost(row):
    return least_costs(row.tree, row.uses)[0][row.first_home]


def best_schedule(row):
    least = least_costs(row.tree, row.uses)
    homes = []
    before = row.first_home
    for place, version in enumerate(row.uses):
        # The first home that loses nothing, place by place, makes the first schedule in lexicographic order.
        before = costs_from(row.tree, before, version, least[place + 1]).index(least[place][before])
        homes.append(before)
    return homes
