"""The tree of versions, with the factor that moves in it cost."""


class Tree:
    def __init__(self, factor, parents, lengths):
        self.factor = factor
        self.version_count = len(parents) + 1
        # Version 0 gets an edge 0 of length 0 with every version on its lower side:
        # so each edge is found under its own number, and no way ever crosses this one.
        self.parents = [0] + parents
        self.lengths = [0] + lengths
        self.distances = []
        for version in range(self.version_count):
            self.distances.append([self.way_length(version, other) for other in range(self.version_count)])

    def has_version(self, version):
        return version < self.version_count

    def is_lower(self, edge, version):
        # A parent's number is smaller, so what climbs past the edge's number has missed the edge.
        while version > edge:
            version = self.parents[version]
        return version == edge

    def way_length(self, version, other):
        total = 0
        for edge in range(self.version_count):
            if self.is_lower(edge, version) != self.is_lower(edge, other):
                total += self.lengths[edge]
        return total

    def distance(self, version, other):
        return self.distances[version][other]

    def neighbours(self, version):
        others = [other for other in range(self.version_count) if other != version]
        return [other for other in others if self.parents[other] == version or self.parents[version] == other]

    def path(self, version, other):
        front = [version]
        back = [other]
        while front[-1] != back[-1]:
            # The greater one can't be above the smaller one, so the way leads through its parent.
            if front[-1] > back[-1]:
                front.append(self.parents[front[-1]])
            else:
                back.append(self.parents[back[-1]])
        back.pop()
        back.reverse()
        return front + back
