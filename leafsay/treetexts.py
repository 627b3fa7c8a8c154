"""Trees as they are written, and read again."""

from leafsay.errors import NoText, TooGreat
from leafsay.names import is_name, is_number
from leafsay.nests import deepest, nest_rows, taken_off
from leafsay.trees import MOST_DEEP, MOST_NODES


def show_node(name, mark):
    return name if mark == 0 else f"{name}:{mark}"


def show_tree(tree):
    shown = show_node(tree[0], tree[1])
    if tree[2] == ():
        return shown
    return shown + "(" + " ".join([show_tree(branch) for branch in tree[2]]) + ")"


def read_node(word):
    halves = word.partition(":")
    if not is_name(halves[0]):
        raise NoText(f"{word!r} begins with no name of a form")
    if halves[1] == "":
        return (halves[0], 0)
    # A mark of 0 is never written.
    if halves[2] == "0" or not is_number(halves[2]):
        raise NoText(f"{word!r} ends with no mark")
    return (halves[0], int(halves[2]))


def read_tree(text):
    rows = nest_rows(text, " ")
    ready = []
    for word, count, level in rows:
        branches = taken_off(ready, count)
        ready.append(read_node(word) + (branches,))
    # Behind all else: only what is a tree is refused for being too great.
    if len(rows) > MOST_NODES or deepest(rows) > MOST_DEEP:
        raise TooGreat(f"a tree has more than {MOST_NODES} nodes or is deeper than {MOST_DEEP}")
    return ready[0]
