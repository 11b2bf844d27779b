"""Bounds: two values for each edge and each place, which prove that no schedule for the uses of a row costs less."""


def crossing_cost(tree, edge):
    return tree.factor * tree.lengths[edge]


def first_pair(row, edge):
    if row.tree.is_lower(edge, row.first_home):
        return (0, crossing_cost(row.tree, edge))
    return (crossing_cost(row.tree, edge), 0)


def pair_after_use(tree, edge, pair, version):
    # A home on the other side than the use pays for the way over the edge.
    if tree.is_lower(edge, version):
        return (pair[0], pair[1] + tree.lengths[edge])
    return (pair[0] + tree.lengths[edge], pair[1])


def reported_pairs(row, edge):
    crossing = crossing_cost(row.tree, edge)
    pair = first_pair(row, edge)
    pairs = [pair]
    for version in row.uses:
        most = pair_after_use(row.tree, edge, pair, version)
        pair = (min(most[0], most[1] + crossing), min(most[1], most[0] + crossing))
        pairs.append(pair)
    return pairs


def reported_values(row):
    values = []
    for edge in range(1, row.tree.version_count):
        for pair in reported_pairs(row, edge):
            values.extend(pair)
    return values


def values_of_edge(row):
    return 2 * (len(row.uses) + 1)


def value_count(row):
    return (row.tree.version_count - 1) * values_of_edge(row)


def pairs_of_edge(row, values, edge):
    size = values_of_edge(row)
    start = (edge - 1) * size
    return [(values[at], values[at + 1]) for at in range(start, start + size, 2)]


def bound_of_values(row, values):
    bound = 0
    for edge in range(1, row.tree.version_count):
        bound += min(pairs_of_edge(row, values, edge)[-1])
    return bound


# The code of the first condition that does not hold for the edge at the place, or 0.
def broken_code(row, edge, pairs, place):
    pair = pairs[place]
    if place == 0:
        most = first_pair(row, edge)
        if pair[0] > most[0] or pair[1] > most[1]:
            return 1
    else:
        most = pair_after_use(row.tree, edge, pairs[place - 1], row.uses[place - 1])
        if pair[0] > most[0]:
            return 2
        if pair[1] > most[1]:
            return 3
    if abs(pair[0] - pair[1]) > crossing_cost(row.tree, edge):
        return 4
    return 0


# The edge, place and code of the first condition that does not hold, or an empty list.
def broken_in_values(row, values):
    for edge in range(1, row.tree.version_count):
        pairs = pairs_of_edge(row, values, edge)
        for place in range(len(pairs)):
            code = broken_code(row, edge, pairs, place)
            if code != 0:
                return [edge, place, code]
    return []
