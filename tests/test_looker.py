"""Points 19 to 22, point 3 as far as it speaks of looking, and point 2 as far as it speaks of these: leafsay/looker.py."""

import copy
import itertools
import random
import unittest

from helper import (
    CLEAR, FAR, KNOTTED, LOOP, LOOP_OF_BOTH, UNKNOTTED, WIDE, Case, carried, grammar_of, hanging, has_ring, named_in, node,
    small_trees, some_grammar, tree_graph,
)
from leafsay.errors import LeafError, Ring, TooGreat
from leafsay.grammars import form_row
from leafsay.looker import grown, look, reach_of
from leafsay.trees import branch_at, paths, sign_of

ALL = (("q", "z"), ("q", "a"), ("b", "z"), ("b", "a"))
REACHES = (
    ("all", [], ALL),
    ("none", [], ()),
    ("cross", [], (("q", "a"), ("b", "z"))),
    ("empty", [], ()),
    ("through", [ALL], ALL),
    ("through", [()], ()),
    ("through", [(("q", "z"),)], (("q", "z"),)),
    ("through", [(("q", "a"), ("b", "z"))], (("q", "a"), ("b", "z"))),
    ("turn", [(), ()], (("q", "a"),)),
    ("turn", [ALL, (("d", "u"),)], (("q", "a"), ("b", "z"))),
    ("turn", [(("q", "z"),), (("d", "u"),)], (("q", "a"), ("b", "z"))),
    ("back", [()], ()),
    ("back", [(("q", "a"),)], ()),
    ("side", [(), (), ()], ()),
    ("side", [(("q", "a"),), (("q", "z"), ("b", "a")), ()], ()),
    ("side", [(("q", "a"),), (("q", "a"),), ()], (("d", "u"),)),
    ("side", [(("b", "a"),), (("q", "z"),), ()], (("d", "u"),)),
    ("side", [ALL, ALL, ()], (("d", "u"),)),
    ("up", [()], ()),
    ("told", [()], ()),
    ("told", [(("q", "z"), ("q", "a"), ("b", "a"))], ()),
)
RINGS = (
    ("back", [(("q", "z"),)]),
    ("back", [(("b", "a"),)]),
    ("back", [(("q", "a"), ("b", "z"))]),
    ("back", [ALL]),
    ("up", [(("d", "u"),)]),
    ("told", [(("b", "z"),)]),
)

NO_FORMS = grammar_of("sign s down a:num up x:num", "sign t")
# There is no tree of `t`, so none of `f`, which would have a ring.
NO_TREES = grammar_of(
    "sign s up u:num", "sign t", "sign v", "form f s t", "0.u = 0.u", "form g t t", "form h s", "0.u = 1", "form i v s t",
)

SIX = "pqrstv"
VALUES = "down a:num down b:num up x:num up y:num"


def ladder(branches):
    """Thirty rows one upon another: six signs, and a turn that grows its reach till there is no more to grow."""
    lines = [f"sign {name} {VALUES}" for name in SIX] + ["form leaf p", "0.x = 0", "0.y = 0"]
    for lower, name in zip(SIX, SIX[1:]):
        lines += [f"form {name} {name} " + " ".join([lower] * branches), "0.x = 1.x", "0.y = 1.y"]
        for k in range(1, branches + 1):
            lines += [f"{k}.a = 0.a", f"{k}.b = 0.b"]
    return lines + ["form turn p v", "0.x = add(0.a,1.y)", "0.y = 1.x", "1.a = 0.b", "1.b = add(0.a,0.b)"]


LADDER = grammar_of(*ladder(1))
BROAD_LADDER = grammar_of(*ladder(3))


def form_graph(grammar, form, reaches):
    graph = {}
    for k, sign in enumerate((form[1],) + form[2]):
        for name in itertools.chain(*carried(grammar, sign)):
            graph[k, name] = set()
    for k, name, term in form[3]:
        graph[k, name] |= named_in(term)
    for k, reach in enumerate(reaches, start=1):
        for down, up in reach:
            graph[k, up].add((k, down))
    return graph


def pairs_in(grammar, sign, graph, root):
    found = hanging(graph)
    downs, ups = carried(grammar, sign)
    return tuple((down, up) for down in downs for up in ups if (root, down) in found[root, up])


def some_reach(source, grammar, sign):
    return tuple(pair for pair in itertools.product(*carried(grammar, sign)) if source.random() < 0.4)


def some_paper(source, grammar, most):
    """A paper in whatever order, not closed as a rule."""
    rows = []
    for turn in range(most):
        form = source.choice(grammar[1])
        fitting = [[number for number, row in enumerate(rows) if row[0] == sign] for sign in form[2]]
        if all(fitting):
            # The later ones more often, so that trees become great.
            lower = tuple(max(source.choice(some), source.choice(some)) for some in fitting)
            graph = form_graph(grammar, form, [rows[number][1] for number in lower])
            row = (form[1], pairs_in(grammar, form[1], graph, 0), form[0], lower)
            if not has_ring(graph) and row[:2] not in [other[:2] for other in rows]:
                rows.append(row)
    return rows


class Held(Case):
    def paper_held(self, grammar, rows):
        self.assertIs(type(rows), list)
        self.assertEqual(len({row[:2] for row in rows}), len(rows))
        for place, row in enumerate(rows):
            self.made_of_tuples(row)
            sign, reach, name, lower = row
            form = form_row(grammar, name)
            self.assertEqual(form[1], sign)
            self.lower_held(form, rows[:place], lower)
            graph = form_graph(grammar, form, [rows[number][1] for number in lower])
            self.assertFalse(has_ring(graph))
            self.assertEqual(reach, pairs_in(grammar, sign, graph, 0))

    def lower_held(self, form, rows, lower):
        self.assertIs(type(lower), tuple)
        self.assertTrue(all(type(number) is int and 0 <= number < len(rows) for number in lower))
        self.assertEqual(tuple(rows[number][0] for number in lower), form[2])

    def closed_held(self, grammar, rows):
        told = {row[:2] for row in rows}
        for form in grammar[1]:
            options = [[row[1] for row in rows if row[0] == sign] for sign in form[2]]
            for reaches in itertools.product(*options):
                graph = form_graph(grammar, form, reaches)
                self.assertFalse(has_ring(graph))
                self.assertIn((form[1], pairs_in(grammar, form[1], graph, 0)), told)

    def trees_held(self, grammar, rows):
        for number, row in enumerate(rows):
            try:
                tree = grown(grammar, rows, number)
            except TooGreat:
                continue
            self.assertEqual(sign_of(grammar, tree), row[0])
            graph = tree_graph(grammar, tree)
            self.assertFalse(has_ring(graph))
            self.assertEqual(pairs_in(grammar, row[0], graph, ()), row[1])

    def clear_held(self, grammar, answer):
        self.assertEqual(answer[0], "clear")
        word, rows = answer
        self.paper_held(grammar, rows)
        self.closed_held(grammar, rows)
        self.trees_held(grammar, rows)

    def found_ring_held(self, grammar, answer):
        self.assertEqual(answer[0], "ring")
        word, rows, name, lower, ring = answer
        self.paper_held(grammar, rows)
        self.trees_held(grammar, rows)
        form = form_row(grammar, name)
        self.lower_held(form, rows, lower)
        self.ring_held(form_graph(grammar, form, [rows[number][1] for number in lower]), ring)
        try:
            tree = node(name, *[grown(grammar, rows, number) for number in lower])
        except TooGreat:
            return
        self.assertTrue(has_ring(tree_graph(grammar, tree)))

    def looked_held(self, grammar):
        answer = look(grammar)
        self.assertIs(type(answer), tuple)
        if answer[0] == "clear":
            self.clear_held(grammar, answer)
        else:
            self.found_ring_held(grammar, answer)
        return answer

    def reach_held(self, grammar, form, reaches):
        graph = form_graph(grammar, form, reaches)
        if has_ring(graph):
            with self.assertRaises(LeafError) as taken:
                reach_of(grammar, form, reaches)
            self.assertIs(type(taken.exception), Ring)
            self.ring_held(graph, taken.exception.ring)
            return
        answer = reach_of(grammar, form, reaches)
        self.made_of_tuples(answer)
        self.assertIs(type(answer), tuple)
        self.assertEqual(answer, pairs_in(grammar, form[1], graph, 0))


class Reaches(Held):
    def test_as_told(self):
        for name, reaches, reach in REACHES:
            with self.subTest(form=name, reaches=reaches):
                self.assertEqual(reach_of(WIDE, form_row(WIDE, name), reaches), reach)
                self.reach_held(WIDE, form_row(WIDE, name), reaches)

    def test_rings_through_a_branchs_reach(self):
        for name, reaches in RINGS:
            self.refused(Ring, reach_of, WIDE, form_row(WIDE, name), reaches)
            self.reach_held(WIDE, form_row(WIDE, name), reaches)

    def test_rings_themselves(self):
        for name, reaches, ring in (
            ("back", [(("q", "z"),)], [(1, "q"), (1, "z")]),
            ("back", [(("b", "a"),)], [(1, "a"), (1, "b")]),
            ("up", [(("d", "u"),)], [(0, "u"), (1, "d"), (1, "u")]),
        ):
            with self.assertRaises(Ring) as taken:
                reach_of(WIDE, form_row(WIDE, name), reaches)
            self.assertEqual(sorted(taken.exception.ring), ring)

    def test_rings_in_a_form_alone(self):
        self.refused(Ring, reach_of, LOOP, LOOP[1][0], [])
        self.refused(Ring, reach_of, LOOP_OF_BOTH, LOOP_OF_BOTH[1][0], [])
        self.reach_held(LOOP, LOOP[1][0], [])
        self.reach_held(LOOP_OF_BOTH, LOOP_OF_BOTH[1][0], [])
        with self.assertRaises(Ring) as taken:
            reach_of(LOOP, LOOP[1][0], [])
        self.assertEqual(taken.exception.ring, [(0, "u")])

    def test_every_choice_of_reaches(self):
        for form in WIDE[1]:
            options = []
            for sign in form[2][:2]:
                pairs = list(itertools.product(*carried(WIDE, sign)))
                chosen = itertools.product((True, False), repeat=len(pairs))
                options.append([tuple(itertools.compress(pairs, some)) for some in chosen])
            for reaches in itertools.product(*options):
                self.reach_held(WIDE, form, list(reaches) + [()] * (len(form[2]) - len(reaches)))

    def test_by_chance(self):
        source = random.Random(20)
        for turn in range(400):
            grammar = some_grammar(source)
            for form in grammar[1]:
                self.reach_held(grammar, form, [some_reach(source, grammar, sign) for sign in form[2]])

    def test_what_is_handed_in_is_left_and_the_ring_may_be_altered(self):
        for name, reaches in RINGS + tuple(row[:2] for row in REACHES):
            before = copy.deepcopy(reaches)
            for turn in range(2):
                try:
                    reach_of(WIDE, form_row(WIDE, name), reaches)
                except Ring as refusal:
                    refusal.ring.clear()
                self.assertEqual(reaches, before)
                self.reach_held(WIDE, form_row(WIDE, name), reaches)


class Looking(Held):
    def test_clear_ones(self):
        for grammar in (CLEAR, UNKNOTTED, NO_FORMS, NO_TREES, LADDER):
            self.clear_held(grammar, look(grammar))

    def test_reaches_that_there_are(self):
        rows = look(UNKNOTTED)[1]
        self.assertEqual({row[:2] for row in rows}, {("s", (("a", "x"),)), ("s", (("b", "y"),)), ("r", ())})
        told = {row[1] for row in look(CLEAR)[1] if row[0] == "s"}
        self.assertLessEqual({ALL, (), (("q", "a"), ("b", "z"))}, told)

    def test_rings_in_a_form_alone(self):
        self.assertEqual(look(LOOP), ("ring", [], "f", (), [(0, "u")]))
        self.found_ring_held(LOOP_OF_BOTH, look(LOOP_OF_BOTH))
        branch = grammar_of("sign s", "sign t down d:num", "form leaf t", "form f s t", "1.d = 1.d")
        self.found_ring_held(branch, look(branch))
        self.assertEqual(look(branch), ("ring", [("t", (), "leaf", ())], "f", (0,), [(1, "d")]))

    def test_rings_of_several_forms_together(self):
        for grammar in (WIDE, KNOTTED, FAR):
            self.found_ring_held(grammar, look(grammar))
        for grammar in (KNOTTED, FAR):
            for form in grammar[1]:
                rest = tuple(other for other in grammar[1] if other != form)
                if form[0] not in ("l", "m"):
                    self.clear_held((grammar[0], rest), look((grammar[0], rest)))
        self.assertEqual(look(FAR)[2], "top")
        self.assertEqual(sorted(look(FAR)[4]), [(1, "b"), (1, "y")])
        self.assertEqual(sorted(look(KNOTTED)[4]), [(1, "a"), (1, "b"), (1, "x"), (1, "y")])

    def test_order_of_signs_and_forms_is_free(self):
        source = random.Random(21)
        for grammar in (WIDE, CLEAR, KNOTTED, UNKNOTTED, FAR, NO_TREES):
            word = look(grammar)[0]
            for turn in range(20):
                mixed = tuple(tuple(source.sample(rows, len(rows))) for rows in grammar)
                self.assertEqual(self.looked_held(mixed)[0], word)

    def test_no_forms(self):
        self.assertEqual(look(NO_FORMS), ("clear", []))
        self.assertEqual(look(((("s", (), ()),), ())), ("clear", []))

    def test_signs_without_trees(self):
        self.assertEqual(look(NO_TREES), ("clear", [("s", (), "h", ())]))
        endless = grammar_of("sign s up u:num", "form f s s", "0.u = 0.u")
        self.assertEqual(look(endless), ("clear", []))

    def test_signs_without_values(self):
        grammar = grammar_of("sign s", "sign t", "form a s", "form b s s s", "form c t s t s", "form d t", "form e t t")
        answer = look(grammar)
        self.clear_held(grammar, answer)
        self.assertEqual(sorted(row[:2] for row in answer[1]), [("s", ()), ("t", ())])

    def test_every_reach_of_a_sign(self):
        lines = [f"sign s {VALUES}"]
        for name, x, y in (("la", "0.a", "0"), ("lb", "0.b", "0"), ("lc", "0", "0.a"), ("ld", "0", "0.b"), ("le", "0", "0")):
            lines += [f"form {name} s", f"0.x = {x}", f"0.y = {y}"]
        for name in ("ta", "tb"):
            lines += [f"form {name} s s s s", "0.x = add(1.x,add(2.x,3.x))", "0.y = add(1.y,add(2.y,3.y))"]
            lines += [f"{k}.{down} = 0.{down}" for k in (1, 2, 3) for down in "ab"]
        grammar = grammar_of(*lines)
        answer = look(grammar)
        self.paper_held(grammar, answer[1])
        self.assertEqual((answer[0], len(answer[1])), ("clear", 16))

    def test_long_way_to_the_ring(self):
        grammar = grammar_of(*ladder(1), "form last p v", "0.x = 0", "0.y = 0", "1.a = 0", "1.b = 1.x")
        answer = look(grammar)
        self.found_ring_held(grammar, answer)
        self.assertEqual(answer[2], "last")
        self.assertEqual(sorted(answer[4]), [(1, "b"), (1, "x")])

    def test_by_chance(self):
        source = random.Random(22)
        words = []
        for turn in range(700):
            grammar = some_grammar(source)
            answer = self.looked_held(grammar)
            words.append(answer[0])
            trees = small_trees(grammar, 4)
            if answer[0] == "clear":
                told = {row[:2] for row in answer[1]}
                for sign, tree in trees:
                    graph = tree_graph(grammar, tree)
                    self.assertFalse(has_ring(graph), (grammar, tree))
                    self.assertIn((sign, pairs_in(grammar, sign, graph, ())), told)
        self.assertGreater(words.count("clear"), 100)
        self.assertGreater(words.count("ring"), 100)

    def test_told_lists_may_be_altered(self):
        for grammar in (LOOP, KNOTTED, UNKNOTTED, FAR, CLEAR):
            first = look(grammar)
            before = copy.deepcopy(first)
            first[1].clear()
            if first[0] == "ring":
                first[4].append("altered")
            self.assertEqual(look(grammar)[0], before[0])
            self.looked_held(grammar)


class Grown(Held):
    def test_by_small_papers(self):
        rows = look(UNKNOTTED)[1]
        for number, row in enumerate(rows):
            tree = grown(UNKNOTTED, rows, number)
            self.made_of_tuples(tree)
            self.assertEqual(tree, node(row[2], *[grown(UNKNOTTED, rows, lower) for lower in row[3]]))
        self.assertEqual(grown(LADDER, look(LADDER)[1], 3), node("s", node("r", node("q", node("leaf")))))

    def test_lower_rows_in_their_order(self):
        grammar = grammar_of("sign s", "sign t", "sign u", "form a s", "form b t", "form c u s t s")
        rows = [("t", (), "b", ()), ("s", (), "a", ()), ("u", (), "c", (1, 0, 1))]
        self.paper_held(grammar, rows)
        self.assertEqual(grown(grammar, rows, 0), node("b"))
        self.assertEqual(grown(grammar, rows, 1), node("a"))
        self.assertEqual(grown(grammar, rows, 2), node("c", node("a"), node("b"), node("a")))

    def test_just_twenty_deep(self):
        rows = look(LADDER)[1]
        self.assertEqual(len(rows), 30)
        self.assertEqual([row[3] for row in rows], [()] + [(number,) for number in range(29)])
        for number in range(20):
            tree = grown(LADDER, rows, number)
            self.assertEqual(paths(tree), [(1,) * length for length in range(number + 1)])
            self.assertEqual([branch_at(tree, path)[1] for path in paths(tree)], [0] * (number + 1))
        for number in range(20, 30):
            self.refused(TooGreat, grown, LADDER, rows, number)

    def sized(self):
        lines = [f"sign {name} {VALUES}" for name in SIX] + ["form leaf p", "0.x = 0", "0.y = 0"]
        for name, head, branches in (("tq", "q", "p p p"), ("tr", "r", "q q q"), ("us", "s", "r"), ("bt", "t", "s s"),
                                     ("bv", "v", "t t"), ("uq", "q", "p")):
            lines += [f"form {name} {head} {branches}", "0.x = 1.x", "0.y = 1.y"]
            lines += [f"{k}.{down} = 0.{down}" for k in range(1, len(branches.split()) + 1) for down in "ab"]
        grammar = grammar_of(*lines, "form turn p v", "0.x = 0.a", "0.y = 0", "1.a = 0", "1.b = 0")
        rows = [("p", (), "leaf", ()), ("q", (), "tq", (0, 0, 0)), ("r", (), "tr", (1, 1, 1)), ("s", (), "us", (2,)),
                ("t", (), "bt", (3, 3)), ("v", (), "bv", (4, 4)), ("p", (("a", "x"),), "turn", (5,)),
                ("q", (("a", "x"),), "uq", (6,))]
        return grammar, rows

    def test_just_sixty_nodes(self):
        grammar, rows = self.sized()
        self.paper_held(grammar, rows)
        for number, size in enumerate((1, 4, 13, 14, 29, 59, 60)):
            tree = grown(grammar, rows, number)
            self.assertEqual(len(paths(tree)), size)
            self.assertEqual(sign_of(grammar, tree), rows[number][0])
        self.refused(TooGreat, grown, grammar, rows, 7)

    def test_very_great(self):
        rows = [row[:3] + (row[3] * (1 if row[2] in ("leaf", "turn") else 3),) for row in look(LADDER)[1]]
        self.paper_held(BROAD_LADDER, rows)
        for number, size in enumerate((1, 4, 13, 40)):
            self.assertEqual(len(paths(grown(BROAD_LADDER, rows, number))), size)
        for number in range(4, 30):
            self.refused(TooGreat, grown, BROAD_LADDER, rows, number)

    def test_great_beside_what_is_asked(self):
        rows = look(LADDER)[1]
        self.assertEqual(grown(LADDER, rows, 0), node("leaf"))
        self.assertEqual(grown(LADDER, rows, 1), node("q", node("leaf")))

    def test_by_chance(self):
        source = random.Random(23)
        taken, refused = 0, 0
        for grammar in [some_grammar(source) for turn in range(300)] + [LADDER, BROAD_LADDER, CLEAR] * 20:
            rows = some_paper(source, grammar, 80)
            self.paper_held(grammar, rows)
            sizes, levels = [], []
            for number, row in enumerate(rows):
                sizes.append(1 + sum(sizes[lower] for lower in row[3]))
                levels.append(1 + max((levels[lower] for lower in row[3]), default=0))
                if sizes[-1] > 60 or levels[-1] > 20:
                    self.refused(TooGreat, grown, grammar, rows, number)
                    refused += 1
                else:
                    tree = grown(grammar, rows, number)
                    self.assertEqual(len(paths(tree)), sizes[-1])
                    self.assertEqual(pairs_in(grammar, row[0], tree_graph(grammar, tree), ()), row[1])
                    taken += 1
        self.assertGreater(taken, 200)
        self.assertGreater(refused, 20)

    def test_what_is_handed_in_is_left(self):
        for grammar in (LADDER, CLEAR, KNOTTED):
            rows = look(grammar)[1]
            before = copy.deepcopy(rows)
            self.trees_held(grammar, rows)
            self.assertEqual(rows, before)


class BothAnswers(Held):
    def test_small_trees_tell_the_same(self):
        for grammar in (WIDE, CLEAR, UNKNOTTED, KNOTTED, FAR, LOOP, NO_TREES):
            trees = small_trees(grammar, 3)
            found = any(has_ring(tree_graph(grammar, tree)) for sign, tree in trees)
            self.assertEqual(look(grammar)[0], "ring" if found else "clear")


if __name__ == "__main__":
    unittest.main()
