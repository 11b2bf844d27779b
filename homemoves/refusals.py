"""The refusals of calls: one error class for each error code."""


class Refusal(Exception):
    def __init__(self, code):
        self.code = code


class OutsideLimits(Refusal):
    def __init__(self):
        Refusal.__init__(self, -1)


class NoTree(Refusal):
    def __init__(self):
        Refusal.__init__(self, -2)


class NoSuchRow(Refusal):
    def __init__(self):
        Refusal.__init__(self, -3)


class NoSuchVersion(Refusal):
    def __init__(self):
        Refusal.__init__(self, -4)


class WrongListLength(Refusal):
    def __init__(self):
        Refusal.__init__(self, -5)


class NoPlaceForRow(Refusal):
    def __init__(self):
        Refusal.__init__(self, -6)


class TooManyUses(Refusal):
    def __init__(self):
        Refusal.__init__(self, -7)


class NotEnoughRoom(Refusal):
    def __init__(self):
        Refusal.__init__(self, -8)
