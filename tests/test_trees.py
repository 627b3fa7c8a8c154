"""Points 15 and 16, and point 2 as far as it speaks of these: leafsay/trees.py."""

import random
import unittest

from helper import VERY_GREAT, Case, high, node, some_tree
from leafsay.errors import NoPlace, NoTree, TooGreat
from leafsay.grammars import let_by
from leafsay.grammartexts import read_grammar
from leafsay.trees import branch_at, paths, put_in, sign_of

LEAF = node("tip", mark=3)
CHAIN = node("a", node("b", node("c", node("d"))))
BROAD = node("a", *[node("b", mark=mark) for mark in range(1, 13)])
# Each node bears a name of its own.
MIXED = node("a", node("b", node("c"), node("d", node("e"), node("f"), node("g"))), node("h"), node("i", node("j")), mark=9)
TREES = (LEAF, CHAIN, BROAD, MIXED)

GRAMMAR = let_by(read_grammar("""sign top
sign mid up text:text
sign low
form root top mid low
form three top low low low
form alone top
form pair mid mid mid
0.text = glue(1.text,2.text)
form wrap mid low
0.text = show(mark)
form leaf mid
0.text = ""
form hook low low
form tip low"""))
FITTING = (
    (node("alone"), "top"),
    (node("leaf", mark=10 ** 18 - 1), "mid"),
    (node("tip"), "low"),
    (node("hook", node("tip")), "low"),
    (node("wrap", node("hook", node("hook", node("tip")))), "mid"),
    (node("pair", node("leaf"), node("wrap", node("tip"))), "mid"),
    (node("root", node("pair", node("leaf"), node("leaf")), node("tip")), "top"),
    (node("three", node("tip"), node("hook", node("tip")), node("tip")), "top"),
)


def below(tree):
    """The nodes of a tree with their paths, found in another way than in the program: by a heap of what is left."""
    found, left = [], [((), tree)]
    while left:
        path, inner = left.pop()
        found.append((path, inner))
        for k in range(len(inner[2]), 0, -1):
            left.append((path + (k,), inner[2][k - 1]))
    return found


def some_trees(count, most):
    source = random.Random(15)
    return [some_tree(source, source.randint(1, most), "abcdef", (0, 1, 7)) for turn in range(count)]


class Paths(Case):
    def test_one_node(self):
        self.assertEqual(paths(LEAF), [()])

    def test_chain(self):
        self.assertEqual(paths(CHAIN), [(), (1,), (1, 1), (1, 1, 1)])

    def test_broad_tree(self):
        self.assertEqual(paths(BROAD), [()] + [(k,) for k in range(1, 13)])

    def test_nodes_ahead_of_their_branches_and_a_branch_ahead_of_the_next(self):
        self.assertEqual(paths(MIXED), [
            (), (1,), (1, 1), (1, 2), (1, 2, 1), (1, 2, 2), (1, 2, 3), (2,), (3,), (3, 1),
        ])

    def test_as_great_as_may_be_handed_in(self):
        self.assertEqual(paths(high("a", 60)), [(1,) * length for length in range(60)])
        self.assertEqual(paths(node("a", *[LEAF] * 199)), [()] + [(k,) for k in range(1, 200)])
        comb = node("a")
        for level in range(59):
            comb = node("a", node("b"), comb, node("c"))
        self.assertEqual(paths(comb), [path for path, inner in below(comb)])

    def test_many_trees(self):
        for tree in some_trees(300, 60):
            self.assertEqual(paths(tree), [path for path, inner in below(tree)])

    def test_told_list_may_be_altered(self):
        for tree in TREES:
            first = paths(tree)
            right = list(first)
            first.reverse()
            first.append((9,))
            self.assertEqual(paths(tree), right)
            self.assertEqual(branch_at(tree, ()), tree)

    def test_kinds_of_answers(self):
        for tree in TREES:
            self.assertIs(type(paths(tree)), list)
            for path in paths(tree):
                self.made_of_tuples(path)


class BranchAt(Case):
    def test_each_node(self):
        for name, path in zip("abcdefghij", paths(MIXED)):
            self.assertEqual(branch_at(MIXED, path)[0], name)

    def test_branches_themselves(self):
        for tree in TREES + (high("a", 60),):
            for path, inner in below(tree):
                self.assertEqual(branch_at(tree, path), inner)
        self.assertEqual(branch_at(BROAD, (12,)), node("b", mark=12))

    def test_many_trees(self):
        for tree in some_trees(200, 60):
            for path, inner in below(tree):
                self.assertEqual(branch_at(tree, path), inner)


class PutIn(Case):
    NEW = node("new", node("x"), node("y", mark=5))

    def test_at_the_root(self):
        for tree in TREES:
            self.assertEqual(put_in(tree, (), self.NEW), self.NEW)

    def test_at_a_leaf(self):
        self.assertEqual(put_in(CHAIN, (1, 1, 1), LEAF), node("a", node("b", node("c", LEAF))))
        self.assertEqual(put_in(node("a", node("b"), node("c"), mark=4), (2,), self.NEW),
                         node("a", node("b"), self.NEW, mark=4))

    def test_between(self):
        self.assertEqual(put_in(CHAIN, (1,), LEAF), node("a", LEAF))
        self.assertEqual(put_in(CHAIN, (1, 1), self.NEW), node("a", node("b", self.NEW)))
        self.assertEqual(put_in(MIXED, (1, 2), LEAF),
                         node("a", node("b", node("c"), LEAF), node("h"), node("i", node("j")), mark=9))
        self.assertEqual(put_in(MIXED, (1, 2, 2), LEAF), node(
            "a", node("b", node("c"), node("d", node("e"), LEAF, node("g"))), node("h"), node("i", node("j")), mark=9))

    def test_each_branch_of_a_broad_tree(self):
        for k in range(1, 13):
            branches = list(BROAD[2])
            branches[k - 1] = self.NEW
            self.assertEqual(put_in(BROAD, (k,), self.NEW), node("a", *branches))

    def test_what_stood_there_put_in_again(self):
        for tree in some_trees(100, 40):
            for path, inner in below(tree):
                self.assertEqual(put_in(tree, path, inner), tree)

    def test_all_else_stays(self):
        for tree in some_trees(100, 30):
            for path, inner in below(tree):
                answer = put_in(tree, path, self.NEW)
                self.made_of_tuples(answer)
                apart = [pair for pair in self.named_nodes(tree) if pair[0][:len(path)] != path]
                new = [(path + lower, told) for lower, told in self.named_nodes(self.NEW)]
                self.assertEqual(self.named_nodes(answer), sorted(apart + new))

    def named_nodes(self, tree):
        return [(path, inner[:2]) for path, inner in below(tree)]

    def test_greater_trees_are_made_all_the_same(self):
        tree = put_in(high("a", 30), (1,) * 29, high("b", 31))
        self.assertEqual(len(paths(tree)), 60)
        broad = put_in(node("a", *[LEAF] * 100), (50,), node("c", *[LEAF] * 99))
        self.assertEqual(len(paths(broad)), 200)

    def test_what_is_handed_in_is_left(self):
        put_in(MIXED, (1, 2), LEAF)
        self.assertEqual([inner[0] for path, inner in below(MIXED)], list("abcdefghij"))


class NoSuchPlace(Case):
    def no_place(self, tree, path):
        for function, handed in ((branch_at, (tree, path)), (put_in, (tree, path, LEAF))):
            try:
                self.refused_shortly(NoPlace, function, *handed)
            except AssertionError:
                self.fail((function.__name__, tree, [str(k) if abs(k) < 10 ** 20 else "very great" for k in path]))

    def test_refusals_class(self):
        self.refused(NoPlace, branch_at, CHAIN, (2,))
        self.refused(NoPlace, put_in, CHAIN, (2,), LEAF)
        self.refused(NoPlace, branch_at, LEAF, (1,))
        self.refused(NoPlace, put_in, LEAF, (0,), LEAF)

    def test_beneath_a_leaf(self):
        for tree in TREES:
            for path, inner in below(tree):
                for k in (0, 1, 2, -1) + VERY_GREAT:
                    if not inner[2]:
                        self.no_place(tree, path + (k,))
                        self.no_place(tree, path + (k, 1, 1))

    def test_one_number_too_great_or_too_small_at_each_place(self):
        for tree in TREES:
            for path, inner in below(tree):
                for place in range(len(path)):
                    many = len(branch_at(tree, path[:place])[2])
                    for k in (0, many + 1, many + 2, -many) + VERY_GREAT:
                        self.no_place(tree, path[:place] + (k,) + path[place + 1:])
                        self.no_place(tree, path[:place] + (k,))

    def test_long_paths(self):
        self.no_place(CHAIN, (1,) * 4)
        self.no_place(CHAIN, (1,) * 20000)
        self.no_place(high("a", 60), (1,) * 60)
        self.no_place(LEAF, (0,) * 20000)


class Fits(Case):
    def test_signs(self):
        for tree, sign in FITTING:
            self.assertEqual(sign_of(GRAMMAR, tree), sign)

    def test_sign_and_form_of_one_name(self):
        grammar = (("a", (), ()), ("b", (), ())), (("a", "b", (), ()), ("b", "a", ("b",), ()))
        self.assertEqual(sign_of(grammar, node("a")), "b")
        self.assertEqual(sign_of(grammar, node("b", node("a"))), "a")
        self.refused(NoTree, sign_of, grammar, node("b", node("b", node("a"))))

    def test_unknown_form(self):
        for name in ("x", "to", "tips", "mid", "low", "top", "text", "leafleaf"):
            self.refused(NoTree, sign_of, GRAMMAR, node(name))
            self.refused(NoTree, sign_of, GRAMMAR, node(name, node("tip")))
            for tree, path in self.fitting_places():
                self.refused(NoTree, sign_of, GRAMMAR, self.renamed(tree, path, name))

    def renamed(self, tree, path, name):
        return put_in(tree, path, (name,) + branch_at(tree, path)[1:])

    def fitting_places(self):
        return [(tree, path) for tree, sign in FITTING for path, inner in below(tree)]

    def test_grammar_without_forms(self):
        self.refused(NoTree, sign_of, ((("a", (), ()),), ()), node("a"))

    def test_a_branch_too_many(self):
        for tree, path in self.fitting_places():
            form, mark, branches = branch_at(tree, path)
            for more in (node("tip"), node("leaf"), node("alone"), node("x")) + branches:
                for place in range(len(branches) + 1):
                    worse = put_in(tree, path, (form, mark, branches[:place] + (more,) + branches[place:]))
                    self.refused(NoTree, sign_of, GRAMMAR, worse)

    def test_a_branch_too_few(self):
        for tree, path in self.fitting_places():
            form, mark, branches = branch_at(tree, path)
            for place in range(len(branches)):
                worse = put_in(tree, path, (form, mark, branches[:place] + branches[place + 1:]))
                self.refused(NoTree, sign_of, GRAMMAR, worse)
            if branches:
                self.refused(NoTree, sign_of, GRAMMAR, put_in(tree, path, (form, mark, ())))

    def test_a_branch_of_another_sign(self):
        by_sign = {"low": (node("tip"), node("hook", node("tip"))), "mid": (node("leaf"),), "top": (node("alone"),)}
        for tree, path in self.fitting_places():
            here = sign_of(GRAMMAR, branch_at(tree, path))
            for sign, branches in by_sign.items():
                for branch in branches:
                    other = put_in(tree, path, branch)
                    if sign == here or path == ():
                        self.assertEqual(sign_of(GRAMMAR, other), sign if path == () else sign_of(GRAMMAR, tree))
                    else:
                        self.refused(NoTree, sign_of, GRAMMAR, other)

    def test_branches_changed_about(self):
        self.refused(NoTree, sign_of, GRAMMAR, node("root", node("tip"), node("leaf")))

    def test_a_fault_far_down(self):
        for lowest in (node("leaf"), node("alone"), node("x"), node("hook"), node("tip", node("tip"))):
            tree = lowest
            while len(paths(tree)) < 19:
                tree = node("hook", tree)
            self.refused(NoTree, sign_of, GRAMMAR, tree)


class Great(Case):
    def test_just_twenty_deep(self):
        self.assertEqual(sign_of(GRAMMAR, self.hooks(20)), "low")
        self.assertEqual(sign_of(GRAMMAR, node("wrap", self.hooks(19))), "mid")
        self.assertEqual(sign_of(GRAMMAR, node("three", node("tip"), node("tip"), self.hooks(19))), "top")

    def hooks(self, levels):
        tree = node("tip")
        for level in range(levels - 1):
            tree = node("hook", tree)
        return tree

    def test_deeper(self):
        for levels in (21, 22, 40, 59):
            self.refused(TooGreat, sign_of, GRAMMAR, self.hooks(levels))
            self.refused(TooGreat, sign_of, GRAMMAR, node("wrap", self.hooks(levels)))
        self.refused(TooGreat, sign_of, GRAMMAR, node("wrap", self.hooks(20)))
        for place in range(3):
            branches = [node("tip")] * 3
            branches[place] = self.hooks(20)
            self.refused(TooGreat, sign_of, GRAMMAR, node("three", *branches))

    def pairs(self, leaves):
        half = leaves // 2
        return node("leaf") if leaves == 1 else node("pair", self.pairs(half), self.pairs(leaves - half))

    def test_just_sixty_nodes(self):
        tree = node("pair", self.pairs(29), node("wrap", node("tip")))
        self.assertEqual(len(paths(tree)), 60)
        self.assertEqual(sign_of(GRAMMAR, tree), "mid")
        tree = node("three", self.hooks(19), self.hooks(19), self.hooks(19))
        self.assertEqual(len(paths(tree)), 58)
        self.assertEqual(sign_of(GRAMMAR, tree), "top")

    def test_more_nodes(self):
        for leaves in (31, 32, 50, 100):
            self.assertEqual(len(paths(self.pairs(leaves))), 2 * leaves - 1)
            self.refused(TooGreat, sign_of, GRAMMAR, self.pairs(leaves))

    def test_too_great_ahead_of_no_tree(self):
        for name in ("x", "tip", "leaf", "alone", "hook", "three"):
            self.refused(TooGreat, sign_of, GRAMMAR, node(name, *[node(name)] * 60))
            self.refused(TooGreat, sign_of, GRAMMAR, node("hook", *[node(name)] * 60))
            self.refused(TooGreat, sign_of, GRAMMAR, node(name, *[node("tip")] * 199))
            self.refused(TooGreat, sign_of, GRAMMAR, put_in(self.hooks(21), (1,) * 20, node(name)))
            self.refused(TooGreat, sign_of, GRAMMAR, node(name, self.hooks(20)))
            self.refused(TooGreat, sign_of, GRAMMAR, high(name, 60))

    def test_sixty_nodes_and_twenty_deep_that_do_not_fit(self):
        for name in ("x", "tip", "leaf", "alone", "hook", "three"):
            self.refused(NoTree, sign_of, GRAMMAR, node(name, *[node(name)] * 59))
            self.refused(NoTree, sign_of, GRAMMAR, high(name, 20))

    def test_answers_come_of_the_arguments_alone(self):
        for turn in range(3):
            self.refused(TooGreat, sign_of, GRAMMAR, self.hooks(21))
            self.refused(NoTree, sign_of, GRAMMAR, node("hook"))
            self.assertEqual(sign_of(GRAMMAR, self.hooks(20)), "low")


if __name__ == "__main__":
    unittest.main()
