"""Points 12, 19 (spots and what they need) and 23, and point 2 as far as it speaks of these: leafsay/spots.py."""

import random
import re
import unittest

from helper import (
    FAR, LOOP, THREADED, TOP, VERY_GREAT, WIDE, Case, carried, fitting_trees, grammar_of, node, self_or_branch,
    some_grammar, thread_of, tree_graph,
)
from leafsay.errors import NoPlace
from leafsay.grammars import form_row
from leafsay.spots import needs, spots
from leafsay.termtexts import show_term
from leafsay.trees import branch_at, paths
from leafsay.treetexts import read_tree

# One name is a down of one sign and an up of another; rules name values more than once, and not in their order.
MIXED = grammar_of(
    "sign s down b:num down a:num up y:num up x:num",
    "sign t down y:num up a:num",
    "sign bare",
    "form many s t s t",
    "0.x = add(3.a,add(0.a,mul(2.x,add(3.a,add(0.b,2.x)))))",
    "0.y = pick(0.a,0.a,0.a)",
    "3.y = add(2.y,1.a)",
    "2.a = 1.a",
    "2.b = add(3.a,sub(1.a,add(3.a,add(0.b,1.a))))",
    "1.y = less(mark,0.b)",
    "form leaf s",
    "0.x = 0.a",
    "0.y = add(0.x,0.x)",
    "form tip t",
    "0.a = 0.y",
    "form fix t bare s bare",
    "0.a = add(2.y,mark)",
    "2.b = add(0.y,2.x)",
    "2.a = 2.b",
    "form empty bare",
    "form hull bare s t bare",
    "1.a = 1",
    "1.b = add(2.a,1.y)",
    "2.y = mark",
)
# Chains of nodes: values told down to the leaf, and up again.
LINE = grammar_of("sign s down a:num up x:num", "form f s", "0.x = 0.a", "form g s s", "0.x = 1.x", "1.a = 0.a")
TREE = read_tree("many:4(fix:1(empty leaf:2 hull(leaf tip empty)) many(tip leaf tip:7) tip)")


def line(levels):
    tree = node("f")
    for level in range(levels - 1):
        tree = node("g", tree, mark=level)
    return tree


def spots_of(text, rows):
    return (read_tree(text), [(path, name) for path, names in rows for name in names])


TOLD = (
    spots_of("leaf", [((), "bayx")]),
    spots_of("tip:9", [((), "ya")]),
    spots_of("empty", []),
    spots_of("fix(empty leaf empty)", [((), "ya"), ((2,), "bayx")]),
    spots_of("hull(leaf tip empty)", [((1,), "bayx"), ((2,), "ya")]),
    spots_of("hull(leaf tip hull(leaf tip empty))", [((1,), "bayx"), ((2,), "ya"), ((3, 1), "bayx"), ((3, 2), "ya")]),
    spots_of("many(tip leaf tip)", [((), "bayx"), ((1,), "ya"), ((2,), "bayx"), ((3,), "ya")]),
    (TREE, [(path, name) for path, names in [
        ((), "bayx"), ((1,), "ya"), ((1, 2), "bayx"), ((1, 3, 1), "bayx"), ((1, 3, 2), "ya"), ((2,), "bayx"),
        ((2, 1), "ya"), ((2, 2), "bayx"), ((2, 3), "ya"), ((3,), "ya"),
    ] for name in names]),
)

NEEDED = (
    # The root: its downs are given, its ups are ruled by its own form.
    ((), "b", []),
    ((), "a", []),
    ((), "y", [((), "a")]),
    ((), "x", [((3,), "a"), ((), "a"), ((2,), "x"), ((), "b")]),
    # In the middle: downs by the form right above, ups by the node's own.
    ((1,), "y", [((), "b")]),
    ((1,), "a", [((1, 2), "y")]),
    ((2,), "b", [((3,), "a"), ((1,), "a"), ((), "b")]),
    ((2,), "a", [((1,), "a")]),
    ((2,), "y", [((2,), "a")]),
    ((2,), "x", [((2, 3), "a"), ((2,), "a"), ((2, 2), "x"), ((2,), "b")]),
    # At leaves.
    ((3,), "y", [((2,), "y"), ((1,), "a")]),
    ((3,), "a", [((3,), "y")]),
    ((1, 2), "b", [((1,), "y"), ((1, 2), "x")]),
    ((1, 2), "a", [((1, 2), "b")]),
    ((1, 2), "y", [((1, 2), "x")]),
    ((1, 2), "x", [((1, 2), "a")]),
    ((1, 3, 1), "b", [((1, 3, 2), "a"), ((1, 3, 1), "y")]),
    ((1, 3, 1), "a", []),
    ((1, 3, 1), "x", [((1, 3, 1), "a")]),
    ((1, 3, 2), "y", []),
    ((1, 3, 2), "a", [((1, 3, 2), "y")]),
    ((2, 1), "y", [((2,), "b")]),
    ((2, 2), "b", [((2, 3), "a"), ((2, 1), "a"), ((2,), "b")]),
    ((2, 2), "a", [((2, 1), "a")]),
    ((2, 3), "y", [((2, 2), "y"), ((2, 1), "a")]),
    ((2, 3), "a", [((2, 3), "y")]),
)


def told_needs(grammar, tree):
    """For each spot what it needs in the order of its rule as it is written, read off what is written."""
    told = {}
    for path in paths(tree):
        form = form_row(grammar, branch_at(tree, path)[0])
        for name in carried(grammar, form[1])[0]:
            told.setdefault((path, name), [])
        for k, name, term in form[3]:
            found = re.findall(r"([0-3])\.([a-z]+)", show_term(term))
            lower = [(self_or_branch(path, int(j)), other) for j, other in dict.fromkeys(found)]
            told[self_or_branch(path, k), name] = lower
    return told


def told_spots(grammar, tree, path=()):
    downs, ups = carried(grammar, form_row(grammar, tree[0])[1])
    found = [(path, name) for name in downs + ups]
    for k, branch in enumerate(tree[2], start=1):
        found += told_spots(grammar, branch, path + (k,))
    return found


class Held(Case):
    def spot_held(self, spot):
        self.assertIs(type(spot), tuple)
        path, name = spot
        self.assertIs(type(path), tuple)
        self.assertIs(type(name), str)

    def tree_held(self, grammar, tree):
        found = spots(grammar, tree)
        self.assertIs(type(found), list)
        self.assertEqual(found, told_spots(grammar, tree))
        told = told_needs(grammar, tree)
        self.assertEqual({spot: set(lower) for spot, lower in told.items()}, tree_graph(grammar, tree))
        for spot in found:
            self.spot_held(spot)
            answer = needs(grammar, tree, spot)
            self.assertIs(type(answer), list)
            self.assertEqual(answer, told[spot], spot)
            for lower in answer:
                self.spot_held(lower)


class Spots(Held):
    def test_as_told(self):
        for tree, found in TOLD:
            with self.subTest(tree):
                self.assertEqual(spots(MIXED, tree), found)

    def test_chains(self):
        for length in (1, 2, 3, 19, 20):
            self.assertEqual(spots(LINE, line(length)), [((1,) * deep, name) for deep in range(length) for name in "ax"])

    def test_broad(self):
        three = node("through", node("cross"))
        tree = node("side", three, node("none"), node("empty"))
        names = "qbza"
        self.assertEqual(spots(WIDE, tree), [((), "d"), ((), "u")] + [((1,), name) for name in names] + [
            ((1, 1), name) for name in names] + [((2,), name) for name in names])

    def test_signs_without_values(self):
        grammar = grammar_of("sign s", "form f s s s s", "form g s")
        for tree in (node("g"), node("f", *[node("g")] * 3), node("f", node("f", *[node("g")] * 3), node("g"), node("g"))):
            self.assertEqual(spots(grammar, tree), [])

    def test_only_downs_and_only_ups(self):
        self.assertEqual(spots(WIDE, node("told", node("none"))), [
            ((), "d"), ((1,), "q"), ((1,), "b"), ((1,), "z"), ((1,), "a")])
        grammar = grammar_of("sign s up b:num up a:num", "sign t down d:num down c:num", "form f s t", "0.a = 1", "0.b = 2",
                             "1.c = 0", "1.d = 1", "form g t")
        self.assertEqual(spots(grammar, node("f", node("g"))), [((), "b"), ((), "a"), ((1,), "d"), ((1,), "c")])

    def test_marks_are_nothing_to_them(self):
        for mark in (0, 1, TOP):
            self.assertEqual(spots(MIXED, node("tip", mark=mark)), [((), "y"), ((), "a")])

    def test_trees_with_rings(self):
        self.tree_held(LOOP, node("f"))
        self.tree_held(FAR, node("top", node("turn", node("leaf"))))
        self.tree_held(WIDE, node("back", node("back", node("all"))))

    def test_told_lists_may_be_altered(self):
        for tree, found in TOLD:
            for turn in range(2):
                told = spots(MIXED, tree)
                self.assertEqual(told, found)
                told.reverse()
                told.append("altered")
                self.tree_held(MIXED, tree)


class Needs(Held):
    def test_as_told(self):
        for path, name, lower in NEEDED:
            with self.subTest(path=path, name=name):
                self.assertEqual(needs(MIXED, TREE, (path, name)), lower)

    def test_downs_of_the_root(self):
        # The same form needs values where it stands below another one.
        for name in "ba":
            self.assertEqual(needs(MIXED, node("leaf"), ((), name)), [])
            self.assertNotEqual(needs(MIXED, TREE, ((1, 2), name)), [])
        self.assertEqual(needs(MIXED, node("tip"), ((), "y")), [])
        self.assertEqual(needs(MIXED, node("tip"), ((), "a")), [((), "y")])

    def test_one_sign_below_several_forms(self):
        for text, lower in (
            ("fix(empty leaf empty)", [((), "y"), ((2,), "x")]),
            ("many(tip leaf tip)", [((3,), "a"), ((1,), "a"), ((), "b")]),
        ):
            self.assertEqual(needs(MIXED, read_tree(text), ((2,), "b")), lower)
        self.assertEqual(needs(MIXED, read_tree("hull(leaf tip empty)"), ((1,), "b")), [((2,), "a"), ((1,), "y")])

    def test_a_spot_that_needs_itself(self):
        self.assertEqual(needs(LOOP, node("f"), ((), "u")), [((), "u")])

    def test_all_of_some_trees(self):
        for tree, found in TOLD:
            self.tree_held(MIXED, tree)
        for text in ("turn(through(all) side(none cross empty))", "told(back(through(all)))", "up(up(side(all all empty)))"):
            self.tree_held(WIDE, read_tree(text))

    def test_great_trees(self):
        for root in ("top", "knot"):
            self.tree_held(THREADED, thread_of(root))
        self.tree_held(LINE, line(20))

    def test_by_chance(self):
        source = random.Random(12)
        for turn in range(150):
            grammar = some_grammar(source, ("num", "text", "row"))
            for tree in fitting_trees(source, grammar, 3):
                self.tree_held(grammar, tree)

    def test_told_lists_may_be_altered(self):
        for path, name, lower in NEEDED:
            for turn in range(2):
                told = needs(MIXED, TREE, (path, name))
                self.assertEqual(told, lower)
                told.append("altered")
        self.tree_held(MIXED, TREE)


class NoSuchPlace(Held):
    def test_paths_that_lead_nowhere(self):
        for path in paths(TREE):
            count = len(branch_at(TREE, path)[2])
            for k in (0, count + 1, count + 2) + VERY_GREAT:
                for behind in ((), (1,), (0,), (1, 2)):
                    for name in ("a", "b", "x", "nothing"):
                        with self.assertRaises(NoPlace):
                            needs(MIXED, TREE, (path + (k,) + behind, name))

    def test_at_the_first_a_middle_and_the_last_place(self):
        tree = line(4)
        self.assertEqual(needs(LINE, tree, ((1, 1, 1), "a")), [((1, 1), "a")])
        for wrong in (0, 2, 3, -1, 10 ** 18):
            for place in range(3):
                path = tuple(wrong if at == place else 1 for at in range(3))
                self.refused(NoPlace, needs, LINE, tree, (path, "a"))
                self.refused(NoPlace, needs, LINE, tree, (path, "x"))
        self.refused(NoPlace, needs, LINE, tree, ((1, 1, 1, 1), "a"))
        for wrong in VERY_GREAT:
            self.refused_shortly(NoPlace, needs, LINE, tree, ((1, wrong, 1), "a"))

    def test_names_that_no_value_of_the_node_has(self):
        for path in paths(TREE):
            form = form_row(MIXED, branch_at(TREE, path)[0])
            downs, ups = carried(MIXED, form[1])
            # Among them those that another node's values have, and names of signs and forms.
            for name in ("b", "a", "y", "x", "s", "t", "leaf", "mark", "bb", "A", "", "nothing", "x" * 1000):
                if name in downs + ups:
                    self.assertEqual(needs(MIXED, TREE, (path, name)), told_needs(MIXED, TREE)[path, name])
                else:
                    self.refused(NoPlace, needs, MIXED, TREE, (path, name))

    def test_node_without_values(self):
        for name in ("a", "x", "empty", "bare", ""):
            self.refused(NoPlace, needs, MIXED, node("empty"), ((), name))
            self.refused(NoPlace, needs, MIXED, node("empty"), ((1,), name))

    def test_the_tree_tells_not_the_grammar(self):
        self.refused(NoPlace, needs, MIXED, node("leaf"), ((1,), "y"))
        self.refused(NoPlace, needs, MIXED, node("tip"), ((), "b"))
        self.refused(NoPlace, needs, LOOP, node("f"), ((1,), "u"))


if __name__ == "__main__":
    unittest.main()
