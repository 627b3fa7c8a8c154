"""Point 26, points 3 and 2 as far as they speak of asking: leafsay/askers.py."""

import random
import unittest

from helper import (
    CLEAR, DESK, DESK_GIVEN, DESK_TREE, DESK_VALUES, FAR, GIVEN, KNOTTED, LOOP, RIGHT, THREADED, VERY_GREAT, WIDE, Case,
    fitting_trees, grammar_of, node, some_given, some_grammar, thread_of, told_values, tree_graph,
)
from leafsay.askers import Asker
from leafsay.errors import NoGiven, NoPlace, Ring
from leafsay.orders import reckoned
from leafsay.spots import spots
from leafsay.treetexts import read_tree

# One spot asked, and all that is reckoned for it, where there is just one order of these.
ASKED = (
    (((), "pre"), []),
    (((), "base"), []),
    (((1,), "deep"), [((1,), "deep")]),
    (((1, 1), "deep"), [((1,), "deep"), ((1, 1), "deep")]),
    (((1, 1), "line"), [((1,), "deep"), ((1, 1), "deep"), ((1, 1), "line")]),
    (((1, 2, 1), "line"), [((1, 2, 1), "line")]),
    (((1, 2, 1), "deep"), [((1,), "deep"), ((1, 2), "deep"), ((1, 2, 1), "deep")]),
    (((1, 2, 2), "nums"), [((1,), "deep"), ((1, 2), "deep"), ((1, 2, 2), "deep"), ((1, 2, 2), "nums")]),
)
# Whichever is picked, a pick hangs on all that it names.
PICKED = grammar_of("sign s down d:num up u:num", "sign t down e:num up v:num up w:num", "form f s t t t",
                    "0.u = pick(1.v,2.v,3.v)", "1.e = 0", "2.e = pick(0,0.d,1.w)", "3.e = 2", "form g t", "0.v = 0.e",
                    "0.w = mark")
# Beside its ring it has spots that hang on the ring, and such as do not.
PARTLY = read_tree("told(through(turn(cross:1 side(cross cross empty))))")


def below(graph, spot):
    """The spot and all on which it hangs."""
    found, waiting = {spot}, [spot]
    while waiting:
        more = set(graph[waiting.pop()]) - found
        found |= more
        waiting += more
    return found


class Held(Case):
    def asked_held(self, asker, grammar, tree, given, asked):
        """Asks for the spots one after another, and holds answers and trail to what is told of them."""
        graph, told = tree_graph(grammar, tree), told_values(grammar, tree, given)
        roots = {((), name) for name in given}
        for spot in asked:
            before = asker.trail()
            if spot in told:
                self.assertEqual(asker.ask(*spot), told[spot], spot)
                self.assertIs(type(asker.ask(*spot)), type(told[spot]))
            else:
                self.ring_told(grammar, tree, asker.ask, *spot)
            trail = asker.trail()
            self.assertIs(type(trail), list)
            self.assertEqual(trail[:len(before)], before)
            due = below(graph, spot) - set(before) - roots if spot in told else set()
            self.assertEqual(len(trail) - len(before), len(due))
            self.assertEqual(set(trail[len(before):]), due)
            self.trail_held(graph, trail, roots)

    def trail_held(self, graph, trail, roots):
        known = set(roots)
        for spot in trail:
            self.assertIs(type(spot), tuple)
            self.assertNotIn(spot, known)
            self.assertLessEqual(set(graph[spot]), known)
            known.add(spot)

    def tree_held(self, source, grammar, tree, given):
        found = spots(grammar, tree)
        for asked in (found, found[::-1], source.sample(found, len(found)), source.choices(found, k=5) if found else []):
            self.asked_held(Asker(grammar, tree, given), grammar, tree, given, asked)


class Asking(Held):
    def test_one_spot(self):
        for spot, trail in ASKED:
            with self.subTest(spot):
                asker = Asker(DESK, DESK_TREE, DESK_GIVEN)
                self.assertEqual(asker.trail(), [])
                self.assertEqual(asker.ask(*spot), DESK_VALUES[spot])
                self.assertEqual(asker.trail(), trail)

    def test_the_same_again(self):
        asker = Asker(DESK, DESK_TREE, DESK_GIVEN)
        for spot in DESK_VALUES:
            value = asker.ask(*spot)
            trail = asker.trail()
            for turn in range(3):
                self.assertEqual(asker.ask(*spot), value)
                self.assertEqual(asker.trail(), trail)

    def test_one_behind_another(self):
        asker = Asker(DESK, DESK_TREE, DESK_GIVEN)
        self.assertEqual(asker.ask((1, 1), "nums"), (1, 117))
        self.assertEqual(asker.trail(), [((1,), "deep"), ((1, 1), "deep"), ((1, 1), "nums")])
        self.assertEqual(asker.ask((1,), "deep"), 107)
        self.assertEqual(asker.ask((), "base"), 7)
        self.assertEqual(len(asker.trail()), 3)
        self.assertEqual(asker.ask((1, 1), "line"), "118")
        self.assertEqual(asker.trail()[3:], [((1, 1), "line")])
        self.assertEqual(asker.ask((1, 2, 2), "deep"), 428)
        self.assertEqual(asker.trail()[4:], [((1, 2), "deep"), ((1, 2, 2), "deep")])

    def test_all_in_any_order(self):
        source = random.Random(26)
        for turn in range(20):
            asker = Asker(DESK, DESK_TREE, DESK_GIVEN)
            for spot in source.sample(list(DESK_VALUES), len(DESK_VALUES)):
                self.assertEqual(asker.ask(*spot), DESK_VALUES[spot])
            self.assertEqual(set(asker.trail()), set(DESK_VALUES) - {((), "pre"), ((), "base")})
        self.tree_held(source, DESK, DESK_TREE, DESK_GIVEN)
        for text in ("turn:1(through(all:3) side(none:9 all:4 empty))", "through(cross)", "none:4", "back(back(none))"):
            self.tree_held(source, WIDE, read_tree(text), {"q": 3, "b": 8})
        self.tree_held(source, WIDE, node("empty"), {})

    def test_given_ones_alone(self):
        for sign in RIGHT:
            for given in RIGHT[sign]:
                for form in ("good", "bad"):
                    asker = Asker(GIVEN, node(form + sign), given)
                    for name, thing in given.items():
                        self.assertEqual(asker.ask((), name), thing)
                    self.assertEqual(asker.trail(), [])

    def test_what_is_not_picked_is_reckoned_too(self):
        tree = read_tree("f(g g:1 g)")
        asker = Asker(PICKED, tree, {"d": 5})
        self.assertEqual(asker.ask((2,), "e"), 0)
        self.assertEqual(set(asker.trail()), {((2,), "e"), ((1,), "w")})
        self.asked_held(asker, PICKED, tree, {"d": 5}, [((), "u"), ((3,), "w")])
        self.assertEqual(asker.ask((), "u"), 2)
        self.assertIn(((2,), "v"), asker.trail())
        self.assertNotIn(((2,), "w"), asker.trail())

    def test_chain_through_sixty_nodes(self):
        tree = thread_of("top")
        values = reckoned(THREADED, tree, {"d": 5})
        asker = Asker(THREADED, tree, {"d": 5})
        self.assertEqual(asker.ask((), "v"), values[(), "v"])
        whole = asker.trail()
        self.assertEqual(len(whole), 238)
        self.trail_held(tree_graph(THREADED, tree), whole, {((), "d")})
        # From the last to the first, and from the first to the last.
        for spot in list(reversed(whole)) + whole:
            self.assertEqual(asker.ask(*spot), values[spot])
        self.assertEqual(asker.trail(), whole)
        for middle in (0, 1, 100, 236):
            asker = Asker(THREADED, tree, {"d": 5})
            self.assertEqual(asker.ask(*whole[middle]), values[whole[middle]])
            self.assertEqual(asker.trail(), whole[:middle + 1])
            self.assertEqual(asker.ask(*whole[middle + 1]), values[whole[middle + 1]])
            self.assertEqual(asker.trail(), whole[:middle + 2])

    def test_many_ways(self):
        # Asked over and over again, each value by each that needs it, this would take very long.
        grammar = grammar_of("sign s down d:num up x:num up y:num", "form f s s", "0.x = add(1.x,1.y)",
                             "0.y = add(1.y,add(1.x,0.d))", "1.d = 0.d", "form g s", "0.x = 0.d", "0.y = mark")
        tree = node("g", mark=1)
        for level in range(19):
            tree = node("f", tree)
        self.asked_held(Asker(grammar, tree, {"d": 2}), grammar, tree, {"d": 2}, [((1,), "x"), ((), "x"), ((), "y")])

    def test_same_values_as_in_an_order(self):
        source = random.Random(27)
        for grammar in [some_grammar(source, ("num", "text", "row")) for turn in range(100)] + [CLEAR, DESK]:
            for tree in fitting_trees(source, grammar, 3):
                given = some_given(source, grammar, tree)
                try:
                    values = reckoned(grammar, tree, given)
                except Ring:
                    continue
                asker = Asker(grammar, tree, given)
                found = {spot: asker.ask(*spot) for spot in source.sample(list(values), len(values))}
                self.assertEqual(found, values)
                self.assertEqual(sorted(asker.trail()), sorted(spot for spot in values if spot[0] or spot[1] not in given))

    def test_by_chance(self):
        source = random.Random(28)
        for turn in range(150):
            grammar = some_grammar(source, ("num", "text", "row"))
            for tree in fitting_trees(source, grammar, 2):
                if len(spots(grammar, tree)) <= 60:
                    self.tree_held(source, grammar, tree, some_given(source, grammar, tree))


class Rings(Held):
    def test_all_hang_on_it(self):
        asker = Asker(LOOP, node("f"), {})
        for turn in range(2):
            self.refused(Ring, asker.ask, (), "u")
            self.assertEqual(self.ring_told(LOOP, node("f"), asker.ask, (), "u"), [((), "u")])
            self.assertEqual(asker.trail(), [])

    def test_some_hang_on_it(self):
        tree = node("tie", node("both"))
        asker = Asker(KNOTTED, tree, {})
        for name in "abxy":
            self.assertEqual(sorted(self.ring_told(KNOTTED, tree, asker.ask, (1,), name)), [((1,), one) for one in "abxy"])
        # This one hangs on the ring, but not on itself.
        self.refused(Ring, asker.ask, (), "w")
        self.assertEqual(len(self.ring_told(KNOTTED, tree, asker.ask, (), "w")), 4)
        self.assertEqual(asker.trail(), [])

    def test_other_spots_are_told_as_ever(self):
        tree = read_tree("told(cross)")
        asker = Asker(WIDE, tree, {"d": 4})
        self.refused(Ring, asker.ask, (1,), "z")
        self.assertEqual(asker.ask((1,), "a"), 4)
        self.assertEqual(asker.trail(), [((1,), "q"), ((1,), "a")])
        self.refused(Ring, asker.ask, (1,), "b")
        self.assertEqual(asker.ask((), "d"), 4)
        self.assertEqual(asker.ask((1,), "q"), 4)
        self.assertEqual(asker.trail(), [((1,), "q"), ((1,), "a")])

    def test_nothing_is_reckoned_then(self):
        # What is fine ahead of the ring, and would be met first, is not reckoned either.
        for first, second in (("1.v", "0.u"), ("0.u", "1.v")):
            grammar = grammar_of(
                "sign s down d:num up u:num", "sign t up v:num", "form f s t", f"0.u = add({first},{second})", "form g t",
                "0.v = mark", "form h s s", "0.u = add(0.d,1.u)", "1.d = add(0.d,1)")
            tree = read_tree("h(h(f(g:5)))")
            asker = Asker(grammar, tree, {"d": 1})
            for path in ((), (1,), (1, 1)):
                self.assertEqual(self.ring_told(grammar, tree, asker.ask, path, "u"), [((1, 1), "u")])
                self.assertEqual(asker.trail(), [])
            self.assertEqual(asker.ask((1, 1, 1), "v"), 5)
            self.assertEqual(asker.ask((1, 1), "d"), 3)
            self.assertEqual(asker.trail(), [((1, 1, 1), "v"), ((1,), "d"), ((1, 1), "d")])
            self.ring_told(grammar, tree, asker.ask, (), "u")
            self.assertEqual(len(asker.trail()), 3)

    def test_rings_through_several_nodes(self):
        source = random.Random(29)
        for text in ("through(cross)", "through(all)", "back(through(all))", "turn(cross side(all all empty))"):
            self.tree_held(source, WIDE, node("told", read_tree(text)), {"d": 4})
        self.tree_held(source, WIDE, PARTLY, {"d": 4})
        self.tree_held(source, WIDE, read_tree("up(side(cross cross empty))"), {"d": "ab"})
        self.tree_held(source, WIDE, read_tree("back(all)"), {"q": 1, "b": 2})
        self.tree_held(source, FAR, read_tree("top(turn(turn(turn(leaf))))"), {})

    def test_ring_through_sixty_nodes(self):
        tree = thread_of("knot")
        asker = Asker(THREADED, tree, {"d": 5})
        for spot in (((), "v"), ((1,), "a"), ((1, 1), "y")):
            self.assertEqual(len(self.ring_told(THREADED, tree, asker.ask, *spot)), 236)
        self.assertEqual(asker.ask((), "u"), 5)
        self.assertEqual(asker.trail(), [((), "u")])

    def test_field_may_be_altered(self):
        tree = node("tie", node("both"))
        asker = Asker(KNOTTED, tree, {})
        for turn in range(3):
            ring = self.ring_told(KNOTTED, tree, asker.ask, (), "w")
            self.assertEqual(len(ring), 4)
            ring.clear()


class NoSuchPlace(Held):
    def test_paths_and_names(self):
        asker = Asker(DESK, DESK_TREE, DESK_GIVEN)
        for path, name in (
            ((), "deep"), ((), "line"), ((), ""), ((), "doc"), ((), "page"), ((), "Out"), ((), "base "), ((1,), "base"),
            ((1,), "pre"), ((1,), "out"), ((1, 2, 2), "all"), ((0,), "deep"), ((2,), "deep"), ((-1,), "line"),
            ((1, 3), "line"), ((1, 0), "line"), ((1, -1), "line"), ((0, 1), "line"), ((1, 3, 1), "deep"),
            ((1, 1, 1), "deep"), ((1, 2, 3), "deep"), ((1, 2, 2, 1), "deep"), ((1, 2, 0), "nums"), ((1, 10 ** 18), "nums"),
        ):
            self.refused(NoPlace, asker.ask, path, name)
        for k in VERY_GREAT:
            for path in ((k,), (1, k), (k, 1), (1, k, 1), (1, 2, k)):
                self.refused_shortly(NoPlace, asker.ask, path, "deep")
        self.assertEqual(asker.trail(), [])
        self.assertEqual(asker.ask((), "out"), "x118433")

    def test_between_other_asking(self):
        asker = Asker(DESK, DESK_TREE, DESK_GIVEN)
        asker.ask((1, 1), "line")
        before = asker.trail()
        self.refused(NoPlace, asker.ask, (1, 1), "base")
        self.refused(NoPlace, asker.ask, (1, 1, 1), "line")
        self.assertEqual(asker.trail(), before)
        self.asked_held(asker, DESK, DESK_TREE, DESK_GIVEN, DESK_VALUES)

    def test_in_a_tree_with_a_ring(self):
        asker = Asker(LOOP, node("f"), {})
        self.refused(NoPlace, asker.ask, (), "v")
        self.refused(NoPlace, asker.ask, (1,), "u")
        self.refused(Ring, asker.ask, (), "u")

    def test_node_without_values(self):
        asker = Asker(WIDE, node("empty"), {})
        for name in ("a", "d", ""):
            self.refused(NoPlace, asker.ask, (), name)


class Made(Held):
    def test_given_that_is_not_right(self):
        self.given_held(Asker)

    def test_a_ring_is_told_on_asking_alone(self):
        for sign in RIGHT:
            for given in RIGHT[sign]:
                asker = Asker(GIVEN, node("bad" + sign), given)
                self.assertEqual(self.ring_told(GIVEN, node("bad" + sign), asker.ask, (), "u"), [((), "u")])
                self.assertEqual(Asker(GIVEN, node("good" + sign), given).ask((), "u"),
                                 told_values(GIVEN, node("good" + sign), given)[(), "u"])

    def test_two_beside_one_another(self):
        first = Asker(DESK, DESK_TREE, DESK_GIVEN)
        second = Asker(DESK, DESK_TREE, {"pre": "yy", "base": 0})
        third = Asker(DESK, node("page", node("lit")), DESK_GIVEN)
        self.assertEqual(first.ask((1,), "deep"), 107)
        self.assertEqual(second.trail(), [])
        self.assertEqual(second.ask((1, 1), "deep"), 110)
        self.assertEqual(third.ask((1,), "deep"), 7)
        self.assertEqual(first.trail(), [((1,), "deep")])
        self.assertEqual(second.trail(), [((1,), "deep"), ((1, 1), "deep")])
        self.assertEqual(second.ask((), "out"), "yy111405")
        self.assertEqual(first.ask((), "out"), "x118433")
        self.assertEqual(third.ask((), "out"), "x7")
        self.assertEqual(third.trail(), [((1,), "deep"), ((1,), "line"), ((), "out")])
        self.asked_held(first, DESK, DESK_TREE, DESK_GIVEN, DESK_VALUES)

    def test_given_dict_altered_behind_the_making(self):
        for altered in ({}, {"pre": "z", "base": 0}, {"pre": "x", "base": None, "more": 1}):
            given = dict(DESK_GIVEN)
            asker = Asker(DESK, DESK_TREE, given)
            given.clear()
            given.update(altered)
            self.assertEqual({spot: asker.ask(*spot) for spot in DESK_VALUES}, DESK_VALUES)

    def test_given_dict_is_left(self):
        given = {"base": 7, "pre": "x"}
        asker = Asker(DESK, DESK_TREE, given)
        for spot in DESK_VALUES:
            asker.ask(*spot)
            asker.trail()
        self.assertEqual(list(given.items()), [("base", 7), ("pre", "x")])
        wrong = {"base": [7], "pre": "x", "more": {}}
        self.refused(NoGiven, Asker, DESK, DESK_TREE, wrong)
        self.assertEqual(list(wrong.items()), [("base", [7]), ("pre", "x"), ("more", {})])

    def test_trail_may_be_altered(self):
        asker = Asker(DESK, DESK_TREE, DESK_GIVEN)
        asker.trail().append("altered")
        self.assertEqual(asker.trail(), [])
        asker.ask((1, 1), "line")
        told = asker.trail()
        told.clear()
        self.assertEqual(asker.trail(), [((1,), "deep"), ((1, 1), "deep"), ((1, 1), "line")])
        asker.trail().reverse()
        self.asked_held(asker, DESK, DESK_TREE, DESK_GIVEN, DESK_VALUES)

    def test_told_trail_stays_as_it_was(self):
        asker = Asker(DESK, DESK_TREE, DESK_GIVEN)
        told = asker.trail()
        asker.ask((), "out")
        self.assertEqual(told, [])


if __name__ == "__main__":
    unittest.main()
