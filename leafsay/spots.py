"""Spots: the values that the nodes of a tree carry, where each is ruled, and which others it needs."""

from leafsay.errors import NoPlace
from leafsay.grammars import form_row, rule_of, sign_row
from leafsay.terms import named, worth
from leafsay.trees import branch_at, paths


def sign_at(grammar, tree, path):
    return sign_row(grammar, form_row(grammar, branch_at(tree, path)[0])[1])


def spots(grammar, tree):
    found = []
    for path in paths(tree):
        sign = sign_at(grammar, tree, path)
        found.extend([(path, name) for name, kind in sign[1] + sign[2]])
    return found


def ruled_by(grammar, tree, path, k, name):
    node = branch_at(tree, path)
    return (path, node[1], rule_of(form_row(grammar, node[0]), k, name))


def rule_at(grammar, tree, spot):
    path = spot[0]
    name = spot[1]
    sign = sign_at(grammar, tree, path)
    if name in dict(sign[2]):
        return ruled_by(grammar, tree, path, 0, name)
    if name not in dict(sign[1]):
        raise NoPlace(f"the node has no value {name!r}")
    if len(path) == 0:
        # The root's downs are given: no form rules them.
        return None
    return ruled_by(grammar, tree, path[:-1], path[-1], name)


def named_spot(path, pair):
    return (path if pair[0] == 0 else path + (pair[0],), pair[1])


def needs(grammar, tree, spot):
    rule = rule_at(grammar, tree, spot)
    if rule is None:
        return []
    return [named_spot(rule[0], pair) for pair in named(rule[2])]


def needs_of_all(grammar, tree):
    return dict([(spot, needs(grammar, tree, spot)) for spot in spots(grammar, tree)])


def ruled_value(grammar, tree, spot, values):
    rule = rule_at(grammar, tree, spot)
    known = dict([(pair, values[named_spot(rule[0], pair)]) for pair in named(rule[2])])
    return worth(rule[2], known, rule[1])
