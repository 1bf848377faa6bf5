"""A gift: units of a kind, for a ship. Its number is how many were given to that ship before."""


class Gift:
    def __init__(self, to, kind, number, units):
        self.to = to
        self.kind = kind
        self.number = number
        self.units = units
