"""Orders: the spots of a tree, each behind those that it needs, and the values that are reckoned in an order."""

from leafsay.errors import NoGiven
from leafsay.graphs import order_of
from leafsay.kinds import is_kind
from leafsay.spots import needs_of_all, ruled_value, sign_at


def order(grammar, tree):
    return order_of(needs_of_all(grammar, tree))


# What is given stays out of the words: it may be anything, and some things cannot be written out.
def given_values(grammar, tree, given):
    downs = dict(sign_at(grammar, tree, ())[1])
    if set(given) != set(downs):
        raise NoGiven("what is given is not for just the downs of the root")
    for name, kind in downs.items():
        if not is_kind(kind, given[name]):
            raise NoGiven(f"what is given for {name!r} is no {kind}")
    return dict([(((), name), given[name]) for name in downs])


def reckoned(grammar, tree, given):
    values = given_values(grammar, tree, given)
    for spot in order(grammar, tree):
        if spot not in values:
            values[spot] = ruled_value(grammar, tree, spot, values)
    return values
