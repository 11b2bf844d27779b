"""What one list of calls works on: a tree or none, and rows under their numbers."""

from homemoves.limits import MOST_ROWS, MOST_USES
from homemoves.refusals import NoPlaceForRow, NoSuchRow, NoSuchVersion, NotEnoughRoom, NoTree, TooManyUses
from homemoves.row import Row
from homemoves.tree import Tree


class State:
    def __init__(self):
        self.tree = None
        self.rows = {}

    def set_tree(self, factor, parents, lengths):
        self.tree = Tree(factor, parents, lengths)
        self.rows = {}

    def need_tree(self):
        if self.tree is None:
            raise NoTree()
        return self.tree

    def need_row(self, number):
        self.need_tree()
        if number not in self.rows:
            raise NoSuchRow()
        return self.rows[number]

    def need_versions(self, versions):
        for version in versions:
            if not self.tree.has_version(version):
                raise NoSuchVersion()

    def need_place_for_row(self, number):
        if number in self.rows or len(self.rows) >= MOST_ROWS:
            raise NoPlaceForRow()

    def need_room_for_uses(self, row, versions):
        if len(row.uses) + len(versions) > MOST_USES:
            raise TooManyUses()

    def need_room_for_rows(self, limits):
        if sum(limits) < len(self.rows):
            raise NotEnoughRoom()

    def rows_in_order(self):
        return [self.rows[number] for number in sorted(self.rows)]

    def add_row(self, number, version):
        self.rows[number] = Row(self.tree, version)

    def remove_row(self, number):
        self.rows.pop(number)
