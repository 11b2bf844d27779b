"""Reads a flat list of whole numbers as calls."""

# How many whole numbers, and how many lists, each of the calls 0 to 15 has.
NUMBER_COUNTS = (1, 2, 2, 1, 1, 1, 1, 1, 1, 1, 0, 1, 0, 0, 1, 0)
LIST_COUNTS = (2, 0, 0, 1, 0, 0, 1, 0, 0, 1, 1, 1, 1, 3, 0, 0)


class Reader:
    def __init__(self, flat):
        self.flat = flat
        self.position = 0

    def at_end(self):
        return self.position >= len(self.flat)

    def take_number(self):
        self.position += 1
        return self.flat[self.position - 1]

    def take_many(self, size):
        self.position += size
        return self.flat[self.position - size:self.position]

    def take_lists(self, list_count):
        lists = []
        while len(lists) < list_count:
            lists.append(self.take_many(self.take_number()))
        return lists


def read_calls(flat):
    reader = Reader(flat)
    calls = []
    while not reader.at_end():
        place = reader.take_number()
        numbers = reader.take_many(NUMBER_COUNTS[place])
        lists = reader.take_lists(LIST_COUNTS[place])
        calls.append((place, numbers, lists))
    return calls
