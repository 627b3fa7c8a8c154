"""Points 4 and 5, the kinds of point 8, and point 2 as far as it speaks of these: leafsay/kinds.py."""

import itertools
import unittest

from leafsay.errors import NoKind
from leafsay.kinds import LIMIT, done, is_kind, made_kind

TOP = 10 ** 18 - 1
KINDS = ("num", "text", "row")
NEEDED = {
    "add": ([("num", "num")], "num"),
    "sub": ([("num", "num")], "num"),
    "mul": ([("num", "num")], "num"),
    "less": ([("num", "num")], "num"),
    "glue": ([("text", "text")], "text"),
    "show": ([("num",)], "text"),
    "size": ([("text",)], "num"),
    "put": ([("row", "num")], "row"),
    "link": ([("row", "row")], "row"),
    "at": ([("row", "num")], "num"),
    "many": ([("row",)], "num"),
    "pick": ([("num", "num", "num"), ("num", "text", "text"), ("num", "row", "row")], None),
}
SOME = {
    "num": [0, 1, 2, 11, 12, 13, 39, 40, 41, TOP // 2, TOP - 1, TOP],
    "text": ["", "a", "z9", "0", "b" * 39, "c" * 40],
    "row": [(), (0,), (TOP, 1), tuple(range(11)), tuple(range(12))],
}


class Limit(unittest.TestCase):
    def test_limit(self):
        self.assertEqual(LIMIT, 10 ** 18)
        self.assertIs(type(LIMIT), int)


class IsKind(unittest.TestCase):
    def only(self, kind, thing):
        for word in KINDS:
            with self.subTest(word=word, thing=thing):
                self.assertIs(is_kind(word, thing), word == kind)

    def test_nums(self):
        for num in (0, 1, 9, 12, 40, 10 ** 17, TOP - 1, TOP):
            self.only("num", num)

    def test_no_nums(self):
        for thing in (-1, -TOP, 10 ** 18, 10 ** 18 + 1, 10 ** 30, True, False, 0.0, 1.0, 1.5, 1j):
            self.only(None, thing)

    def test_texts(self):
        letters = "abcdefghijklmnopqrstuvwxyz"
        for text in ("", "a", "z", "0", "9", "007", letters, "0123456789", "ab" * 20, "mark", "num", "q" * 39):
            self.only("text", text)
        for sign in letters + "0123456789":
            self.only("text", sign)

    def test_no_texts(self):
        for text in ("a" * 41, "1" * 41, "a" * 100000, "A", "aB", "a b", " ", "a\n", "\n", "a-b", "_", '"', "-1"):
            self.only(None, text)

    def test_signs_about_the_letters_and_figures(self):
        for sign in ("/", ":", "`", "{", "@", "[", "\x00", "\x7f"):
            self.only(None, sign)
            self.only(None, "ab" + sign)
            self.only(None, sign + "ab")

    def test_letters_and_figures_of_other_scripts(self):
        for sign in ("\u00e9", "\u00df", "\u0430", "\u0663", "\u00b2", "\uff41", "\uff11", "\ud800", "\U0001d7d8"):
            self.only(None, sign)
            self.only(None, "a" * 39 + sign)

    def test_rows(self):
        for row in ((), (0,), (TOP,), (1, 1, 1), tuple(range(11)), tuple(range(12)), (TOP,) * 12):
            self.only("row", row)

    def test_no_rows(self):
        for row in (tuple(range(13)), (0,) * 100, (-1,), (10 ** 18,), (True,), (False,), (None,), ("a",), ("1",),
                    ((),), ((1,),), ([],), ({},), (1.0,), (1, 2, True), (0,) * 11 + (10 ** 18,), (0,) * 11 + (-1,)):
            self.only(None, row)

    def test_things_of_other_sorts(self):
        for thing in (None, [], [1, 2], [0] * 12, ["a"], {}, {0: 1}, {"a": 1}, set(), frozenset(), b"", b"ab",
                      bytearray(b"ab"), range(3), object(), int, len):
            self.only(None, thing)

    def test_things_are_left_as_they_were(self):
        some = [1, 2]
        names = {"a": 1}
        for word in KINDS:
            is_kind(word, some)
            is_kind(word, names)
            is_kind(word, (some,))
        self.assertEqual(some, [1, 2])
        self.assertEqual(names, {"a": 1})


class MadeKind(unittest.TestCase):
    def test_each_deed_with_all_choices_of_none_to_four_kinds(self):
        for deed, (needs, made) in NEEDED.items():
            for count in range(5):
                for kinds in itertools.product(KINDS, repeat=count):
                    with self.subTest(deed=deed, kinds=kinds):
                        if kinds in needs:
                            self.assertEqual(made_kind(deed, list(kinds)), made or kinds[1])
                        else:
                            self.assertRaises(NoKind, made_kind, deed, list(kinds))

    def test_words_that_are_no_deeds(self):
        for deed in ("", "Add", "ADD", "add ", " add", "ad", "adds", "div", "num", "text", "row", "mark", "of", "call",
                     "call add", "0"):
            for count in range(4):
                for kinds in itertools.product(KINDS, repeat=count):
                    with self.subTest(deed=deed, kinds=kinds):
                        self.assertRaises(NoKind, made_kind, deed, list(kinds))

    def test_list_is_left_as_it_was(self):
        for deed in list(NEEDED) + ["none"]:
            for kinds in (["num", "num"], ["num", "row", "row"], ["text"], []):
                handed = list(kinds)
                try:
                    made_kind(deed, handed)
                except NoKind:
                    pass
                self.assertEqual(handed, kinds)


class Done(unittest.TestCase):
    def told(self, deed, rows):
        for some, made in rows:
            with self.subTest(deed=deed, some=some):
                answer = done(deed, list(some))
                self.assertEqual(answer, made)
                self.assertIs(type(answer), type(made))

    def test_add(self):
        self.told("add", [
            ((0, 0), 0), ((2, 3), 5), ((TOP, 0), TOP), ((TOP, 1), 0), ((1, TOP), 0), ((TOP, 2), 1),
            ((TOP - 1, 1), TOP), ((TOP, TOP), TOP - 1), ((5 * 10 ** 17, 5 * 10 ** 17), 0),
        ])

    def test_sub(self):
        self.told("sub", [
            ((0, 0), 0), ((5, 3), 2), ((3, 5), TOP - 1), ((0, 1), TOP), ((0, TOP), 1), ((TOP, TOP), 0),
            ((TOP, 0), TOP), ((1, TOP), 2),
        ])

    def test_mul(self):
        self.told("mul", [
            ((0, TOP), 0), ((6, 7), 42), ((1, TOP), TOP), ((10 ** 9, 10 ** 9), 0), ((TOP, TOP), 1), ((TOP, 2), TOP - 1),
            ((10 ** 17, 25), 5 * 10 ** 17), ((123456789012, 987654321098), 123456789012 * 987654321098 % 10 ** 18),
        ])

    def test_less(self):
        self.told("less", [
            ((0, 0), 0), ((0, 1), 1), ((1, 0), 0), ((9, 10), 1), ((TOP, TOP), 0), ((TOP - 1, TOP), 1), ((TOP, 0), 0),
        ])

    def test_pick(self):
        for one, other in ((3, 4), (0, 0), (0, TOP), ("ab", ""), ("", "c"), ((1, 2), ()), ((), (0,))):
            self.told("pick", [
                ((0, one, other), other), ((1, one, other), one), ((2, one, other), one), ((TOP, one, other), one),
            ])

    def test_glue(self):
        self.told("glue", [
            (("", ""), ""), (("ab", ""), "ab"), (("", "cd"), "cd"), (("ab", "cd"), "abcd"),
            (("a" * 39, ""), "a" * 39), (("a" * 20, "b" * 19), "a" * 20 + "b" * 19),
            (("a" * 20, "b" * 20), "a" * 20 + "b" * 20), (("a" * 20, "bc" * 10 + "d"), "a" * 20 + "bc" * 10),
            (("a" * 39, "bc"), "a" * 39 + "b"), (("a" * 40, "b"), "a" * 40), (("a" * 40, "b" * 40), "a" * 40),
            (("a", "b" * 40), "a" + "b" * 39), (("", "b" * 40), "b" * 40),
        ])

    def test_show(self):
        self.told("show", [
            ((0,), "0"), ((7,), "7"), ((10,), "10"), ((1200,), "1200"), ((10 ** 17,), "1" + "0" * 17), ((TOP,), "9" * 18),
        ])

    def test_size(self):
        self.told("size", [(("",), 0), (("a",), 1), (("007",), 3), (("ab" * 20,), 40)])

    def test_put(self):
        self.told("put", [
            (((), 0), (0,)), (((5,), 3), (5, 3)), (((5,), 5), (5, 5)), ((tuple(range(10)), TOP), tuple(range(10)) + (TOP,)),
            ((tuple(range(11)), 99), tuple(range(11)) + (99,)), ((tuple(range(12)), 99), tuple(range(12))),
        ])

    def test_link(self):
        self.told("link", [
            (((), ()), ()), (((1,), ()), (1,)), (((), (2,)), (2,)), (((1, 2), (2, 1)), (1, 2, 2, 1)),
            ((tuple(range(6)), tuple(range(5))), tuple(range(6)) + tuple(range(5))),
            ((tuple(range(6)), tuple(range(6))), tuple(range(6)) + tuple(range(6))),
            ((tuple(range(6)), tuple(range(7))), tuple(range(6)) + tuple(range(6))),
            ((tuple(range(12)), (99,)), tuple(range(12))), (((99,), tuple(range(12))), (99,) + tuple(range(11))),
            ((tuple(range(12)), tuple(range(12, 24))), tuple(range(12))),
        ])

    def test_at(self):
        self.told("at", [
            (((), 0), 0), (((), TOP), 0), (((5,), 0), 5), (((5,), 1), 0), (((5, 6, 7), 1), 6), (((5, 6, 7), 2), 7),
            (((5, 6, 7), 3), 0), (((5, 6, 7), TOP), 0), ((tuple(range(1, 13)), 11), 12), ((tuple(range(1, 13)), 12), 0),
        ])

    def test_at_somewhat_below_the_first_place(self):
        self.told("at", [(((5, 6, 7), -1), 0), (((5, 6, 7), -3), 0), (((), -1), 0)])

    def test_many(self):
        self.told("many", [(((),), 0), (((0,),), 1), (((3, 3, 3),), 3), ((tuple(range(12)),), 12)])

    def test_what_is_made_is_of_the_kind_that_is_told(self):
        for deed, (needs, made) in NEEDED.items():
            for kinds in needs:
                for some in itertools.product(*[SOME[kind] for kind in kinds]):
                    with self.subTest(deed=deed, some=some):
                        self.assertTrue(is_kind(made_kind(deed, list(kinds)), done(deed, list(some))))

    def test_list_is_left_as_it_was(self):
        for deed, (needs, made) in NEEDED.items():
            for kinds in needs:
                some = [SOME[kind][-1] for kind in kinds]
                handed = list(some)
                first = done(deed, handed)
                self.assertEqual(handed, some)
                self.assertEqual(done(deed, handed), first)


if __name__ == "__main__":
    unittest.main()
