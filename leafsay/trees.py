"""Trees: the paths to their nodes, and which trees fit a grammar."""

from leafsay.errors import NoName, NoPlace, NoTree, TooGreat
from leafsay.grammars import form_row

# How great a tree of a grammar, or one that is read, may be.
MOST_NODES = 60
MOST_DEEP = 20


def paths(tree):
    found = [()]
    for k, branch in enumerate(tree[2], start=1):
        found.extend([(k,) + path for path in paths(branch)])
    return found


def branch_at(tree, path):
    node = tree
    for k in path:
        if not 1 <= k <= len(node[2]):
            # The number stays out of the words: Python writes out no number of very many figures.
            raise NoPlace("the path leads to no node of the tree")
        node = node[2][k - 1]
    return node


def put_in(tree, path, branch):
    if len(path) == 0:
        return branch
    k = path[0]
    lower = put_in(branch_at(tree, (k,)), path[1:], branch)
    return (tree[0], tree[1], tree[2][:k - 1] + (lower,) + tree[2][k:])


def check_tree_size(tree):
    all_paths = paths(tree)
    # A path has one number less than there are nodes on it.
    if len(all_paths) > MOST_NODES or max([len(path) for path in all_paths]) >= MOST_DEEP:
        raise TooGreat(f"the tree has more than {MOST_NODES} nodes or is deeper than {MOST_DEEP}")


def form_of(grammar, name):
    try:
        return form_row(grammar, name)
    except NoName:
        raise NoTree(f"the grammar has no form {name!r}") from None


def fitting_sign(grammar, tree):
    form = form_of(grammar, tree[0])
    signs = tuple([fitting_sign(grammar, branch) for branch in tree[2]])
    if signs != form[2]:
        form_name = form[0]
        raise NoTree(f"a node of the form {form_name!r} has the branches {signs!r}")
    return form[1]


def sign_of(grammar, tree):
    check_tree_size(tree)
    return fitting_sign(grammar, tree)
