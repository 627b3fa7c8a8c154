"""Points 6, 7 and 8, and point 2 as far as it speaks of these: leafsay/terms.py."""

import copy
import unittest

from helper import MARK, ROW, TOP, balanced, call, chain, num, of, text
from leafsay.errors import LeafError, NoKind
from leafsay.kinds import is_kind
from leafsay.terms import depth, kind_of, named, parts, worth

KINDS = {(0, "n"): "num", (1, "n"): "num", (2, "t"): "text", (3, "r"): "row", (0, "longname"): "text"}
KNOWN = {(0, "n"): 7, (1, "n"): 0, (2, "t"): "abc", (3, "r"): (4, 5, 6), (0, "longname"): "z9"}
LEAVES = (num(0), num(TOP), text(""), text("a1"), ROW, MARK, of(0, "n"), of(3, "r"))
# The names of deeds and sorts, and texts that look like terms, must not be taken for more than they are.
NESTED = call(
    "pick",
    call("less", of(1, "b"), call("add", of(0, "a"), of(1, "b"))),
    call("glue", text("of"), call("show", of(2, "b"))),
    call("glue", call("show", of(0, "a")), of(0, "c")),
)


class Parts(unittest.TestCase):
    def test_terms_without_terms_in_them(self):
        for term in LEAVES:
            with self.subTest(term):
                self.assertEqual(parts(term), 1)

    def test_calls(self):
        self.assertEqual(parts(call("show", num(5))), 2)
        self.assertEqual(parts(call("add", num(5), MARK)), 3)
        self.assertEqual(parts(call("pick", num(5), ROW, ROW)), 4)

    def test_terms_within_terms(self):
        self.assertEqual(parts(NESTED), 14)
        self.assertEqual(parts(call("link", ROW, call("put", ROW, call("size", text("call"))))), 6)

    def test_same_term_twice_counts_twice(self):
        inner = call("add", of(0, "n"), of(0, "n"))
        self.assertEqual(parts(call("mul", inner, inner)), 7)


class Depth(unittest.TestCase):
    def test_terms_without_terms_in_them(self):
        for term in LEAVES:
            with self.subTest(term):
                self.assertEqual(depth(term), 1)

    def test_calls(self):
        self.assertEqual(depth(call("show", num(5))), 2)
        self.assertEqual(depth(call("pick", num(5), ROW, ROW)), 2)

    def test_greatest_depth_at_each_place(self):
        deep = call("add", call("add", MARK, MARK), MARK)
        self.assertEqual(depth(call("pick", deep, MARK, MARK)), 4)
        self.assertEqual(depth(call("pick", MARK, deep, MARK)), 4)
        self.assertEqual(depth(call("pick", MARK, MARK, deep)), 4)
        self.assertEqual(depth(call("add", deep, call("add", MARK, MARK))), 4)
        self.assertEqual(depth(NESTED), 4)


class Named(unittest.TestCase):
    def test_terms_that_name_none(self):
        for term in (num(0), text("of"), text(""), ROW, MARK, call("add", num(1), MARK), call("many", ROW)):
            with self.subTest(term):
                self.assertEqual(named(term), [])

    def test_one_value(self):
        for k in range(4):
            self.assertEqual(named(of(k, "a")), [(k, "a")])
        self.assertEqual(named(call("show", of(2, "longname"))), [(2, "longname")])

    def test_order_from_the_left(self):
        self.assertEqual(named(call("pick", of(3, "c"), of(1, "a"), of(2, "b"))), [(3, "c"), (1, "a"), (2, "b")])
        self.assertEqual(named(NESTED), [(1, "b"), (0, "a"), (2, "b"), (0, "c")])

    def test_twice_named_stands_once_where_it_first_came(self):
        self.assertEqual(named(call("add", of(0, "a"), of(0, "a"))), [(0, "a")])
        term = call("pick", call("add", of(2, "b"), of(1, "a")), call("add", of(1, "a"), of(2, "b")), of(2, "b"))
        self.assertEqual(named(term), [(2, "b"), (1, "a")])
        term = call("add", call("add", call("add", of(1, "a"), of(0, "z")), of(0, "a")), of(1, "a"))
        self.assertEqual(named(term), [(1, "a"), (0, "z"), (0, "a")])

    def test_same_name_at_several_places_and_several_names_at_one(self):
        term = call("add", call("add", of(1, "a"), of(0, "a")), call("add", of(0, "b"), of(1, "b")))
        self.assertEqual(named(term), [(1, "a"), (0, "a"), (0, "b"), (1, "b")])

    def test_told_as_a_list_of_pairs(self):
        answer = named(call("add", of(1, "a"), of(0, "b")))
        self.assertIs(type(answer), list)
        self.assertEqual([type(pair) for pair in answer], [tuple, tuple])

    def test_told_list_may_be_altered(self):
        for term in (of(0, "a"), NESTED, num(1), call("add", of(1, "a"), of(0, "b"))):
            with self.subTest(term):
                first = named(term)
                kept = list(first)
                first.append((3, "other"))
                first.reverse()
                self.assertEqual(named(term), kept)
                named(term).clear()
                self.assertEqual(named(term), kept)


class KindOf(unittest.TestCase):
    def test_each_sort(self):
        self.assertEqual(kind_of(num(0), {}), "num")
        self.assertEqual(kind_of(num(TOP), KINDS), "num")
        self.assertEqual(kind_of(text(""), {}), "text")
        self.assertEqual(kind_of(text("num"), KINDS), "text")
        self.assertEqual(kind_of(ROW, {}), "row")
        self.assertEqual(kind_of(MARK, {}), "num")
        for pair, kind in KINDS.items():
            self.assertEqual(kind_of(of(*pair), KINDS), kind)

    def test_calls(self):
        n, t, r = of(0, "n"), of(2, "t"), of(3, "r")
        for deed, terms, kind in (
            ("add", (n, num(1)), "num"), ("sub", (MARK, n), "num"), ("mul", (n, n), "num"), ("less", (n, MARK), "num"),
            ("glue", (t, text("a")), "text"), ("show", (n,), "text"), ("size", (t,), "num"), ("put", (r, n), "row"),
            ("link", (r, ROW), "row"), ("at", (r, n), "num"), ("many", (ROW,), "num"), ("pick", (n, n, MARK), "num"),
            ("pick", (n, text(""), t), "text"), ("pick", (MARK, ROW, r), "row"),
        ):
            with self.subTest(deed=deed, terms=terms):
                self.assertEqual(kind_of(call(deed, *terms), KINDS), kind)

    def test_terms_within_terms(self):
        kinds = {(1, "b"): "num", (0, "a"): "num", (2, "b"): "num", (0, "c"): "text"}
        self.assertEqual(kind_of(NESTED, kinds), "text")

    def refused(self, term, kinds):
        with self.subTest(term=term, kinds=kinds):
            with self.assertRaises(LeafError) as taken:
                kind_of(term, kinds)
            self.assertIs(type(taken.exception), NoKind)

    def test_pick_of_two_kinds(self):
        for one, other in ((num(1), text("")), (text(""), ROW), (ROW, num(1)), (of(0, "n"), of(3, "r"))):
            self.refused(call("pick", MARK, one, other), KINDS)
            self.refused(call("pick", MARK, other, one), KINDS)

    def test_pick_by_another_kind_than_num(self):
        self.refused(call("pick", text("a"), text("a"), text("a")), KINDS)
        self.refused(call("pick", ROW, ROW, ROW), KINDS)

    def test_too_few_and_too_many_terms(self):
        for deed in ("add", "sub", "mul", "less"):
            self.refused(call(deed, num(1)), KINDS)
            self.refused(call(deed, num(1), num(1), num(1)), KINDS)
        self.refused(call("pick", num(1)), KINDS)
        self.refused(call("pick", num(1), num(1)), KINDS)
        self.refused(call("show", num(1), num(1)), KINDS)
        self.refused(call("size", text(""), text("")), KINDS)
        self.refused(call("many", ROW, ROW), KINDS)
        self.refused(call("glue", text("")), KINDS)
        self.refused(call("glue", text(""), text(""), text("")), KINDS)
        self.refused(call("put", ROW), KINDS)
        self.refused(call("put", ROW, num(1), num(1)), KINDS)
        self.refused(call("link", ROW), KINDS)
        self.refused(call("link", ROW, ROW, ROW), KINDS)
        self.refused(call("at", ROW), KINDS)
        self.refused(call("at", ROW, num(1), num(1)), KINDS)

    def test_terms_of_another_kind(self):
        for deed in ("add", "sub", "mul", "less"):
            self.refused(call(deed, num(1), text("")), KINDS)
            self.refused(call(deed, ROW, num(1)), KINDS)
        self.refused(call("show", text("")), KINDS)
        self.refused(call("size", ROW), KINDS)
        self.refused(call("many", text("")), KINDS)
        self.refused(call("glue", text(""), num(1)), KINDS)
        self.refused(call("put", num(1), ROW), KINDS)
        self.refused(call("link", ROW, num(1)), KINDS)
        self.refused(call("at", num(1), ROW), KINDS)
        self.refused(call("at", ROW, of(2, "t")), KINDS)

    def test_fault_deep_within(self):
        for fault in (call("show", ROW), call("none", num(1)), call("add", num(1)), of(3, "n")):
            self.refused(call("glue", text(""), call("show", call("size", fault))), KINDS)
            self.refused(call("pick", num(0), text("a"), fault), KINDS)
            self.refused(call("pick", num(1), text("a"), fault), KINDS)

    def test_value_that_the_dict_lacks(self):
        self.refused(of(0, "a"), {})
        self.refused(of(2, "n"), KINDS)
        self.refused(of(0, "t"), KINDS)
        self.refused(call("add", of(0, "n"), of(3, "n")), KINDS)

    def test_words_that_are_no_deeds(self):
        for deed in ("", "div", "ADD", "num", "mark", "of", "call", "row"):
            self.refused(call(deed, num(1)), KINDS)
            self.refused(call(deed, num(1), num(1)), KINDS)
            self.refused(call(deed, num(1), num(1), num(1)), KINDS)

    def test_dict_is_left_as_it_was(self):
        kinds = dict(KINDS)
        kind_of(call("add", of(0, "n"), of(1, "n")), kinds)
        self.refused(call("add", of(0, "n"), of(0, "none")), kinds)
        self.assertEqual(list(kinds.items()), list(KINDS.items()))

    def test_answers_come_of_the_arguments_alone(self):
        kinds = {(0, "a"): "num"}
        term = call("pick", num(1), of(0, "a"), of(0, "a"))
        self.assertEqual(kind_of(term, kinds), "num")
        kinds[(0, "a")] = "row"
        self.assertEqual(kind_of(term, kinds), "row")
        kinds.clear()
        self.refused(term, kinds)


class Worth(unittest.TestCase):
    def told(self, term, value, mark=0):
        with self.subTest(term=term, mark=mark):
            answer = worth(term, KNOWN, mark)
            self.assertEqual(answer, value)
            self.assertIs(type(answer), type(value))

    def test_each_sort(self):
        self.told(num(0), 0)
        self.told(num(TOP), TOP)
        self.told(text(""), "")
        self.told(text("mark"), "mark")
        self.told(ROW, ())
        for mark in (0, 1, TOP):
            self.told(MARK, mark, mark)
        for pair, value in KNOWN.items():
            self.told(of(*pair), value, 3)

    def test_calls(self):
        n, t, r = of(0, "n"), of(2, "t"), of(3, "r")
        self.told(call("add", n, num(TOP)), 6)
        self.told(call("sub", num(3), n), 10 ** 18 - 4)
        self.told(call("sub", n, num(3)), 4)
        self.told(call("mul", n, MARK), 21, 3)
        self.told(call("less", MARK, n), 1, 6)
        self.told(call("less", n, MARK), 0, 6)
        self.told(call("pick", n, num(1), num(2)), 1)
        self.told(call("pick", of(1, "n"), num(1), num(2)), 2)
        self.told(call("pick", MARK, t, text("no")), "no", 0)
        self.told(call("pick", MARK, ROW, r), (), 5)
        self.told(call("glue", t, of(0, "longname")), "abcz9")
        self.told(call("glue", text("a" * 30), text("b" * 30)), "a" * 30 + "b" * 10)
        self.told(call("show", n), "7")
        self.told(call("show", num(0)), "0")
        self.told(call("size", t), 3)
        self.told(call("put", r, n), (4, 5, 6, 7))
        self.told(call("link", r, r), (4, 5, 6, 4, 5, 6))
        self.told(call("at", r, num(2)), 6)
        self.told(call("at", r, num(3)), 0)
        self.told(call("many", r), 3)

    def test_terms_within_terms(self):
        known = {(1, "b"): 5, (0, "a"): 2, (2, "b"): 31, (0, "c"): "x"}
        self.assertEqual(worth(NESTED, known, 0), "of31")
        known[(0, "a")] = TOP
        self.assertEqual(worth(NESTED, known, 0), "9" * 18 + "x")

    def test_mark_within_terms(self):
        term = call("put", call("put", ROW, MARK), call("add", MARK, num(1)))
        self.assertEqual(worth(term, {}, 0), (0, 1))
        self.assertEqual(worth(term, {}, TOP), (TOP, 0))

    def test_value_is_of_the_terms_kind(self):
        for term in LEAVES + (call("show", of(0, "n")), call("link", of(3, "r"), ROW), call("at", of(3, "r"), MARK)):
            with self.subTest(term):
                self.assertTrue(is_kind(kind_of(term, KINDS), worth(term, KNOWN, 2)))

    def test_dict_is_left_as_it_was(self):
        known = dict(KNOWN)
        worth(call("put", of(3, "r"), call("add", of(0, "n"), of(1, "n"))), known, 1)
        self.assertEqual(list(known.items()), list(KNOWN.items()))

    def test_answers_come_of_the_arguments_alone(self):
        known = {(0, "a"): 1}
        term = call("add", of(0, "a"), MARK)
        self.assertEqual(worth(term, known, 0), 1)
        known[(0, "a")] = 5
        self.assertEqual(worth(term, known, 0), 5)
        self.assertEqual(worth(term, known, 2), 7)


class GreatTerms(unittest.TestCase):
    def test_thirty_deep(self):
        for levels in (29, 30):
            term = chain("add", levels, of(0, "n"))
            self.assertEqual(depth(term), levels)
            self.assertEqual(parts(term), 2 * levels - 1)
            self.assertEqual(named(term), [(0, "n")])
            self.assertEqual(kind_of(term, KINDS), "num")
            self.assertEqual(worth(term, KNOWN, 0), 7 + levels - 1)

    def test_two_hundred_parts(self):
        names = [(k, chr(97 + one) + chr(97 + other)) for one in range(5) for other in range(5) for k in range(4)]
        term = call("show", balanced([of(k, name) for k, name in names]))
        self.assertEqual(parts(term), 200)
        self.assertEqual(depth(term), 9)
        self.assertEqual(named(term), names)
        self.assertEqual(kind_of(term, {pair: "num" for pair in names}), "text")
        self.assertEqual(worth(term, {pair: place for place, pair in enumerate(names)}, 0), "4950")

    def test_two_hundred_parts_and_thirty_deep(self):
        deep = chain("add", 29, of(1, "n"))
        rest = balanced([MARK] * 71)
        term = call("pick", of(0, "n"), deep, rest)
        self.assertEqual(parts(term), 200)
        self.assertEqual(depth(term), 30)
        self.assertEqual(named(term), [(0, "n"), (1, "n")])
        self.assertEqual(kind_of(term, KINDS), "num")
        self.assertEqual(worth(term, KNOWN, 2), 28)
        self.assertEqual(worth(term, {(0, "n"): 0, (1, "n"): 9}, 2), 142)


class TermsAreLeft(unittest.TestCase):
    def test_terms_are_left_as_they_were(self):
        kinds = {(1, "b"): "num", (0, "a"): "num", (2, "b"): "num", (0, "c"): "text"}
        known = {(1, "b"): 5, (0, "a"): 2, (2, "b"): 31, (0, "c"): "x"}
        before = copy.deepcopy(NESTED)
        parts(NESTED), depth(NESTED), named(NESTED), kind_of(NESTED, kinds), worth(NESTED, known, 1)
        self.assertEqual(NESTED, before)


if __name__ == "__main__":
    unittest.main()
