"""A row, whose home follows its uses."""


class Row:
    def __init__(self, tree, first_home):
        self.tree = tree
        self.first_home = first_home
        self.home = first_home
        self.cost = 0
        self.moves = 0
        self.uses = []
        # The tree's edge 0 has a mark and a counter too; all versions are on its lower side, so they never change.
        self.marks = [tree.is_lower(edge, first_home) for edge in range(tree.version_count)]
        self.counters = [tree.factor if lower else -tree.factor for lower in self.marks]

    def use(self, version):
        self.uses.append(version)
        self.cost += self.tree.distance(self.home, version)
        for edge in range(self.tree.version_count):
            self.count_use(edge, self.tree.is_lower(edge, version))
        self.move_to(self.marked_version())

    def count_use(self, edge, lower):
        factor = self.tree.factor
        if lower:
            self.counters[edge] = min(self.counters[edge] + 1, factor)
        else:
            self.counters[edge] = max(self.counters[edge] - 1, -factor)
        if self.counters[edge] == factor:
            self.marks[edge] = True
        elif self.counters[edge] == -factor:
            self.marks[edge] = False

    def marked_version(self):
        # The edges above a version have smaller numbers than its own, and exactly those are marked
        # on their lower side: so the version that all marks agree on is the greatest of these.
        version = self.tree.version_count - 1
        while not self.marks[version]:
            version -= 1
        return version

    def move_to(self, home):
        if home != self.home:
            self.cost += self.tree.factor * self.tree.distance(self.home, home)
            self.moves += 1
            self.home = home
