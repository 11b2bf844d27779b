"""The best fixed home for weights, and the check of one by its neighbours."""


def weighted_cost(tree, weights, home):
    return sum([weight * tree.distance(home, version) for version, weight in enumerate(weights)])


def weighted_costs(tree, weights):
    return [weighted_cost(tree, weights, home) for home in range(tree.version_count)]


def weight_beyond(tree, weights, version, neighbour):
    total = 0
    for other, weight in enumerate(weights):
        if tree.distance(other, neighbour) < tree.distance(other, version):
            total += weight
    return total


# The first neighbour with more than half of all weights beyond it, and the weight there, or an empty list.
def better_side(tree, weights, version):
    for neighbour in tree.neighbours(version):
        weight = weight_beyond(tree, weights, version, neighbour)
        if 2 * weight > sum(weights):
            return [neighbour, weight]
    return []
