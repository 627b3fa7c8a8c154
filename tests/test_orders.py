"""Points 24 and 25, points 3 and 2 as far as they speak of these: leafsay/orders.py."""

import copy
import random
import unittest

from helper import (
    CLEAR, DESK, DESK_GIVEN, DESK_TREE, DESK_VALUES, FAR, GIVEN, KNOTTED, LOOP, LOOP_OF_BOTH, RIGHT, THREADED, TOP,
    UNKNOTTED, WIDE, Case, fitting_trees, grammar_of, node, small_trees, some_given, some_grammar, thread_of, told_values,
    tree_graph,
)
from leafsay.errors import Ring, TooGreat
from leafsay.looker import grown, look
from leafsay.orders import order, reckoned
from leafsay.spots import spots
from leafsay.treetexts import read_tree

ORDERED = (
    (WIDE, "none"),
    (WIDE, "empty"),
    (WIDE, "all"),
    (WIDE, "through(through(cross))"),
    (WIDE, "turn(through(all) side(none cross empty))"),
    (WIDE, "back(none)"),
    (WIDE, "told(none)"),
    (WIDE, "back(through(none:5))"),
    (UNKNOTTED, "tie(l)"),
    (UNKNOTTED, "tie(m)"),
    (KNOTTED, "tie(l:3)"),
    (FAR, "top(leaf)"),
    (FAR, "top(turn(turn(leaf)))"),
    (FAR, "turn(turn(turn(leaf)))"),
    (DESK, "page:100(pair:10(lit:1 pair(nil lit:5)))"),
)
# Each with the spots of its one ring.
RINGS = (
    (LOOP, "f", [((), "u")]),
    (LOOP_OF_BOTH, "f:7", [((), "u"), ((), "v")]),
    (WIDE, "back(cross)", [((1,), name) for name in "abqz"]),
    (WIDE, "up(side(cross cross empty))", [
        ((), "u"), ((1,), "d"), ((1,), "u"), ((1, 1), "a"), ((1, 1), "q"), ((1, 2), "a"), ((1, 2), "q"),
    ]),
    (WIDE, "told(cross)", [((1,), "b"), ((1,), "z")]),
    (WIDE, "told(through(cross))", [((1,), "b"), ((1,), "z"), ((1, 1), "b"), ((1, 1), "z")]),
    (KNOTTED, "tie(both)", [((1,), name) for name in "abxy"]),
    (FAR, "top(turn(leaf))", [((1,), "b"), ((1,), "y"), ((1, 1), "a"), ((1, 1), "x")]),
    (FAR, "top(turn(turn(turn(leaf))))", [
        ((1,), "b"), ((1,), "y"), ((1, 1), "a"), ((1, 1), "x"), ((1, 1, 1), "b"), ((1, 1, 1), "y"), ((1, 1, 1, 1), "a"),
        ((1, 1, 1, 1), "x"),
    ]),
)


class Held(Case):
    def values_held(self, grammar, tree, given):
        values = reckoned(grammar, tree, given)
        self.assertIs(type(values), dict)
        self.assertEqual(set(values), set(spots(grammar, tree)))
        self.assertEqual(values, told_values(grammar, tree, given))
        for spot, value in values.items():
            self.made_of_tuples((spot, value))

    def tree_held(self, grammar, tree, given):
        """Tells whether the tree has a ring."""
        found = spots(grammar, tree)
        told = told_values(grammar, tree, given)
        if len(told) < len(found):
            self.ring_told(grammar, tree, order, grammar, tree)
            self.ring_told(grammar, tree, reckoned, grammar, tree, given)
            return True
        self.order_held(tree_graph(grammar, tree), order(grammar, tree))
        self.values_held(grammar, tree, given)
        return False


class Orders(Held):
    def test_trees_without_rings(self):
        for grammar, text in ORDERED:
            with self.subTest(text):
                tree = read_tree(text)
                self.order_held(tree_graph(grammar, tree), order(grammar, tree))

    def test_no_spots(self):
        self.assertEqual(order(WIDE, node("empty")), [])

    def test_just_one_order(self):
        grammar = grammar_of("sign s up u:num up v:num", "sign t down d:num up w:num", "form f s t", "0.u = 1.w",
                             "0.v = 0.u", "1.d = 3", "form g t", "0.w = add(0.d,mark)")
        self.assertEqual(order(grammar, node("f", node("g"))), [((1,), "d"), ((1,), "w"), ((), "u"), ((), "v")])

    def test_rings(self):
        for grammar, text, ring in RINGS:
            tree = read_tree(text)
            self.refused(Ring, order, grammar, tree)
            self.assertEqual(sorted(self.ring_told(grammar, tree, order, grammar, tree)), ring)

    def test_rings_among_others(self):
        self.ring_told(WIDE, read_tree("back(all)"), order, WIDE, read_tree("back(all)"))
        tree = read_tree("turn(back(cross) up(side(through(back(all)) none empty)))")
        self.ring_told(WIDE, tree, order, WIDE, tree)

    def test_chain_through_sixty_nodes(self):
        tree = thread_of("top")
        found = order(THREADED, tree)
        self.order_held(tree_graph(THREADED, tree), found)
        self.assertEqual(len(found), 239)
        for lower, upper in zip(found, found[1:]):
            self.assertEqual(tree_graph(THREADED, tree)[upper], {lower})

    def test_ring_through_sixty_nodes(self):
        tree = thread_of("knot")
        self.assertEqual(len(self.ring_told(THREADED, tree, order, THREADED, tree)), 236)

    def test_told_lists_may_be_altered(self):
        for grammar, text in ORDERED:
            tree = read_tree(text)
            for turn in range(2):
                found = order(grammar, tree)
                self.order_held(tree_graph(grammar, tree), found)
                found.reverse()
                found.append("altered")
        for grammar, text, ring in RINGS:
            tree = read_tree(text)
            for turn in range(2):
                told = self.ring_told(grammar, tree, order, grammar, tree)
                self.assertEqual(sorted(told), ring)
                told.clear()


class Reckoned(Held):
    def test_all_kinds(self):
        self.assertEqual(reckoned(DESK, DESK_TREE, DESK_GIVEN), DESK_VALUES)
        self.values_held(DESK, DESK_TREE, DESK_GIVEN)

    def test_marks_of_the_node_at_which_a_value_is_ruled(self):
        grammar = grammar_of("sign s down d:num up u:num", "form f s s", "0.u = sub(mark,1.u)",
                             "1.d = add(mul(mark,10),0.d)", "form g s", "0.u = add(mark,0.d)")
        for low in (0, 1, TOP):
            for mid in (0, 2, TOP):
                for high in (0, 3, TOP):
                    tree = node("f", node("f", node("g", mark=low), mark=mid), mark=high)
                    first = (high * 10 + 4) % 10 ** 18
                    second = (mid * 10 + first) % 10 ** 18
                    last = (low + second) % 10 ** 18
                    middle = (mid - last) % 10 ** 18
                    self.assertEqual(reckoned(grammar, tree, {"d": 4}), {
                        ((), "d"): 4, ((1,), "d"): first, ((1, 1), "d"): second, ((1, 1), "u"): last, ((1,), "u"): middle,
                        ((), "u"): (high - middle) % 10 ** 18,
                    })

    def test_no_one_and_two_downs_of_the_root(self):
        for text, given, up in (
            ("goodnone:8", {}, 8),
            ("goodnone", {}, 0),
            ("goodone", {"r": ()}, 0),
            ("goodone", {"r": (5,) * 12}, 12),
            ("goodtwo", {"n": 3, "t": "ab"}, 5),
            ("goodtwo", {"t": "z" * 40, "n": TOP}, 39),
            ("goodboth", {"r": (9,), "q": (7, 8)}, 8),
            ("goodboth", {"r": (7, 8), "q": (9,)}, 0),
        ):
            told = {((), name): thing for name, thing in given.items()}
            self.assertEqual(reckoned(GIVEN, read_tree(text), given), {**told, ((), "u"): up})

    def test_no_values(self):
        self.assertEqual(reckoned(WIDE, node("empty"), {}), {})

    def test_only_downs(self):
        self.assertEqual(reckoned(WIDE, read_tree("told(none:2)"), {"d": 4}), {
            ((), "d"): 4, ((1,), "q"): 4, ((1,), "b"): 2, ((1,), "z"): 2, ((1,), "a"): 7})

    def test_one_form_at_several_nodes(self):
        tree = read_tree("turn:1(through(all:3) side(none:9 all:4 empty))")
        self.values_held(WIDE, tree, {"q": 5, "b": 12})
        values = reckoned(WIDE, tree, {"q": 5, "b": 12})
        self.assertEqual([values[(1, 1), name] for name in "qbza"], [3, 5, 8, 8])
        self.assertEqual([values[(2,), name] for name in "du"], ["12x", "7"])
        self.assertEqual([values[(2, 1), name] for name in "qbza"], [3, 3, 9, 7])
        self.assertEqual([values[(2, 2), name] for name in "qbza"], [3, 0, 3, 3])
        self.assertEqual([values[(), name] for name in "qbza"], [5, 12, 1, 40])

    def test_chain_through_sixty_nodes(self):
        self.values_held(THREADED, thread_of("top"), {"d": 5})
        self.ring_told(THREADED, thread_of("knot"), reckoned, THREADED, thread_of("knot"), {"d": 5})

    def test_many_ways(self):
        # Reckoned over and over again, each value for each that needs it, this would take very long.
        grammar = grammar_of("sign s up x:num up y:num", "form f s s", "0.x = add(1.x,1.y)", "0.y = add(1.y,add(1.x,1.x))",
                             "form g s", "0.x = 1", "0.y = mark")
        tree = node("g", mark=1)
        for level in range(19):
            tree = node("f", tree)
        self.values_held(grammar, tree, {})

    def test_given_that_is_not_right(self):
        self.given_held(reckoned)

    def test_given_that_is_right(self):
        for sign in RIGHT:
            for given in RIGHT[sign]:
                self.values_held(GIVEN, node("good" + sign, mark=4), given)
                self.assertEqual(self.ring_told(GIVEN, node("bad" + sign), reckoned, GIVEN, node("bad" + sign), given),
                                 [((), "u")])

    def test_rings(self):
        for grammar, text, ring in RINGS:
            tree = read_tree(text)
            given = some_given(random.Random(25), grammar, tree)
            self.refused(Ring, reckoned, grammar, tree, given)
            self.assertEqual(sorted(self.ring_told(grammar, tree, reckoned, grammar, tree, given)), ring)

    def test_what_is_handed_in_is_left(self):
        for grammar, tree, given in (
            (DESK, DESK_TREE, dict(DESK_GIVEN)),
            (WIDE, read_tree("turn:1(through(all:3) side(none:9 all:4 empty))"), {"b": 12, "q": 5}),
            (GIVEN, node("badtwo"), {"t": "a", "n": 1}),
            (GIVEN, node("goodtwo"), {"t": "a", "n": [1]}),
            (GIVEN, node("goodtwo"), {"t": "a"}),
        ):
            before = copy.deepcopy(list(given.items()))
            for turn in range(2):
                try:
                    reckoned(grammar, tree, given)
                except ValueError:
                    pass
                self.assertEqual(list(given.items()), before)

    def test_told_dicts_may_be_altered(self):
        for turn in range(2):
            given = dict(DESK_GIVEN)
            values = reckoned(DESK, DESK_TREE, given)
            self.assertEqual(values, DESK_VALUES)
            values.clear()
            values["altered"] = True
            self.assertEqual(given, DESK_GIVEN)
            self.assertEqual(reckoned(DESK, DESK_TREE, given), DESK_VALUES)
            given.clear()


class ByChance(Held):
    def test_order_and_values(self):
        source = random.Random(24)
        rings = []
        for turn in range(200):
            grammar = some_grammar(source, ("num", "text", "row"))
            for tree in fitting_trees(source, grammar, 4):
                rings.append(self.tree_held(grammar, tree, some_given(source, grammar, tree)))
        self.assertGreater(rings.count(True), 50)
        self.assertGreater(rings.count(False), 200)

    def test_clear_grammars_have_orders_only(self):
        source = random.Random(3)
        clear = 0
        for grammar in [some_grammar(source, ("num", "text", "row")) for turn in range(200)] + [CLEAR, UNKNOTTED, DESK]:
            answer = look(grammar)
            if answer[0] == "clear":
                clear += 1
                trees = [tree for sign, tree in small_trees(grammar, 3)] + fitting_trees(source, grammar, 4)
                for tree in trees:
                    self.assertFalse(self.tree_held(grammar, tree, some_given(source, grammar, tree)))
        self.assertGreater(clear, 50)

    def test_rings_that_were_found_by_looking(self):
        source = random.Random(4)
        found = 0
        for grammar in [some_grammar(source) for turn in range(200)] + [WIDE, KNOTTED, FAR, LOOP, LOOP_OF_BOTH]:
            answer = look(grammar)
            if answer[0] == "ring":
                try:
                    tree = node(answer[2], *[grown(grammar, answer[1], number) for number in answer[3]])
                except TooGreat:
                    continue
                found += 1
                self.assertTrue(self.tree_held(grammar, tree, some_given(source, grammar, tree)))
        self.assertGreater(found, 30)


if __name__ == "__main__":
    unittest.main()
