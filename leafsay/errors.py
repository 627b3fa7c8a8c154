"""The refusals of the program, one class for each."""


class LeafError(ValueError):
    pass


class NoText(LeafError):
    pass


class TooGreat(LeafError):
    pass


class NoName(LeafError):
    pass


class NoRule(LeafError):
    pass


class NoKind(LeafError):
    pass


class NoTree(LeafError):
    pass


class NoPlace(LeafError):
    pass


class NoGiven(LeafError):
    pass


class NoWalk(LeafError):
    pass


class Ring(LeafError):
    # A copy, so that what a taker does with the field alters nobody else's list.
    def __init__(self, ring):
        self.ring = list(ring)
