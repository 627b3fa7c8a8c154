"""Askers, which reckon of a tree's values only those that are asked for and those on which these hang."""

from leafsay.errors import NoPlace
from leafsay.graphs import order_from
from leafsay.orders import given_values
from leafsay.spots import needs_of_all, ruled_value


class Asker:
    def __init__(self, grammar, tree, given):
        self.grammar = grammar
        self.tree = tree
        self.known = given_values(grammar, tree, given)
        self.graph = needs_of_all(grammar, tree)
        self.spots_reckoned = []

    def ask(self, path, name):
        spot = (path, name)
        if spot not in self.graph:
            raise NoPlace(f"the tree has no value {name!r} at this path")
        # The whole order is there ahead of the first value, so that a ring leaves all as it was.
        due = order_from(self.graph, spot)
        for one in due:
            if one not in self.known:
                self.known[one] = ruled_value(self.grammar, self.tree, one, self.known)
                self.spots_reckoned.append(one)
        return self.known[spot]

    def trail(self):
        return list(self.spots_reckoned)
