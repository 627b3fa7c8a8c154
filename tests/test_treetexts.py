"""Point 17, with points 6 and 15, and point 2 as far as it speaks of these: leafsay/treetexts.py."""

import random
import re
import string
import unittest

from helper import TOP, Case, WrittenCase, high, most_open, node, some_tree
from leafsay.errors import LeafError, NoText, TooGreat
from leafsay.treetexts import read_tree, show_tree

MARKS = (0, 1, 9, 10, 100, 12345, 10 ** 17, TOP - 1, TOP)
NAMES = ("a", "z", "lit", "mark", "form", "sign", "abcdefgh", "zzzzzzzz")
SIXTY = node("a", *[node("b", node("c"), node("d", mark=8)) for place in range(19)], node("e", node("f")))
WRITTEN = (
    (node("lit"), "lit"),
    (node("lit", mark=1), "lit:1"),
    (node("lit", mark=TOP), "lit:999999999999999999"),
    (node("neg", node("lit")), "neg(lit)"),
    (node("neg", node("lit", mark=7), mark=3), "neg:3(lit:7)"),
    (node("add", node("lit", mark=12), node("neg", node("lit")), mark=7), "add:7(lit:12 neg(lit))"),
    (node("a", node("b"), node("c"), node("d")), "a(b c d)"),
    (node("a", node("b", node("c")), node("d", node("e"), node("f", node("g")))), "a(b(c) d(e f(g)))"),
    (node("abcdefgh", node("z", mark=10), mark=20), "abcdefgh:20(z:10)"),
)
HEAD = re.compile(r"([a-z]{1,8})(?::([1-9][0-9]{0,17}))?")


def tree_from(written, start):
    """The tree that begins at a place, and the place behind it, or None; by functions that call one another."""
    head = HEAD.match(written, start)
    if not head:
        return None
    place, branches = head.end(), []
    if written[place:place + 1] == "(":
        while written[place] != ")":
            if branches and written[place] != " ":
                return None
            inner = tree_from(written, place + 1)
            if inner is None or inner[1] == len(written):
                return None
            branches.append(inner[0])
            place = inner[1]
        place += 1
    return (head[1], int(head[2] or 0), tuple(branches)), place


def size(tree):
    return 1 + sum(size(branch) for branch in tree[2])


def levels(tree):
    return 1 + max((levels(branch) for branch in tree[2]), default=0)


def expected(written):
    found = tree_from(written, 0)
    if found is None or found[1] != len(written):
        return "NoText", None
    if size(found[0]) > 60 or levels(found[0]) > 20:
        return "TooGreat", None
    return "read", found[0]


def may_be_either(written):
    return most_open(written) >= 20 or len(re.findall(r"[a-z0-9:]+", written)) >= 60


class Read(WrittenCase):
    show = staticmethod(show_tree)
    read_text = staticmethod(read_tree)


class Ordinary(Read):
    def test_as_told(self):
        for tree, written in WRITTEN:
            self.read(tree, written)

    def test_marks(self):
        for mark in MARKS[1:] + tuple(range(1, 120)) + tuple(10 ** power - 1 for power in range(1, 19)):
            self.read(node("lit", mark=mark), f"lit:{mark}")
            self.read(node("neg", node("lit", mark=mark), mark=mark), f"neg:{mark}(lit:{mark})")

    def test_names(self):
        for name in NAMES + tuple(string.ascii_lowercase) + tuple("q" * length for length in range(1, 9)):
            self.read(node(name), name)
            self.read(node(name, node(name, mark=2), node(name)), f"{name}({name}:2 {name})")

    def test_no_to_many_branches(self):
        for count in range(1, 60):
            self.read(node("a", *[node("b")] * count), "a(" + " ".join("b" * count) + ")")

    def test_chains(self):
        for deep in range(1, 21):
            self.read(high("up", deep), "(".join(["up"] * deep) + ")" * (deep - 1))

    def test_sixty_nodes(self):
        self.assertEqual(size(SIXTY), 60)
        self.there_and_back(SIXTY)
        self.there_and_back(node("a", *[high("b", 19)] * 3, node("c"), node("d")))

    def test_many_trees(self):
        source = random.Random(17)
        found = 0
        while found < 1500:
            tree = some_tree(source, source.randint(1, 60), NAMES, MARKS)
            if levels(tree) <= 20:
                self.there_and_back(tree)
                found += 1

    def test_unlike_trees_are_written_unlike(self):
        source = random.Random(18)
        told = {}
        for turn in range(3000):
            tree = some_tree(source, source.randint(1, 5), "ab", (0, 1))
            self.assertEqual(told.setdefault(show_tree(tree), tree), tree)

    def test_what_is_handed_in_is_left_and_answers_stay(self):
        for tree, written in WRITTEN:
            self.assertEqual(read_tree(written), read_tree(written))
            self.refused(NoText, read_tree, written + " ")
            self.assertEqual(read_tree(written), tree)


class Great(Read):
    def test_sixty_one_nodes(self):
        for tree in (node("a", SIXTY), node("a", *[node("b")] * 60), node("a", *[high("b", 15)] * 4)):
            self.assertEqual(size(tree), 61)
            self.assertLessEqual(levels(tree), 20)
            self.refused(TooGreat, read_tree, show_tree(tree))

    def test_twenty_one_deep(self):
        self.refused(TooGreat, read_tree, show_tree(high("a", 21)))
        for place in range(3):
            branches = [node("b", mark=4)] * 3
            branches[place] = high("a", 20)
            self.refused(TooGreat, read_tree, show_tree(node("c", *branches)))
            branches[place] = high("a", 19)
            self.there_and_back(node("c", *branches))

    def test_depth_counts_open_brackets_alone(self):
        self.there_and_back(node("a", *[high("b", 14)] * 4))

    def test_greater_ones_are_written(self):
        self.assertEqual(show_tree(high("a", 21)), "a(" * 20 + "a" + ")" * 20)
        self.assertEqual(show_tree(high("abcdefgh", 60)), "abcdefgh(" * 59 + "abcdefgh" + ")" * 59)
        self.assertEqual(show_tree(node("a", *[node("b", mark=TOP)] * 199)), "a(" + " ".join([f"b:{TOP}"] * 199) + ")")
        for tree in (high("a", 60), node("a", *[node("b", mark=TOP)] * 199)):
            self.refused(TooGreat, read_tree, show_tree(tree))

    def test_as_great_as_a_text_may_be(self):
        self.refused_shortly(TooGreat, read_tree, "a(" * 33333 + "a" + ")" * 33333)
        self.refused_shortly(TooGreat, read_tree, "a(" + "b " * 49998 + "b)")
        self.refused_shortly(TooGreat, read_tree, "a(b " * 19999 + "a" + ")" * 19999)
        self.refused_shortly(TooGreat, read_tree, "a(" * 19999 + "a" + " b)" * 19999)
        wide = "a"
        while 2 * len(wide) + 4 <= 100000:
            wide = f"a({wide} {wide})"
        self.refused_shortly(TooGreat, read_tree, wide)

    def test_long_texts_that_write_none(self):
        for written in ("a" * 100000, "1" * 100000, "a:" + "1" * 99998, ")" * 100000, " " * 100000, ":" * 100000,
                        "a:1" * 33333, "lit" + " " * 99997, "\n" * 100000):
            self.refused_shortly(NoText, read_tree, written)
        for written in ("(" * 100000, "a(" * 50000, "a(b " * 25000, "a(" * 30000 + "a" + ")" * 29999,
                        "a(" + "b " * 49998 + "b", "a(" + "b " * 49998 + ")", "a " * 50000, "a(a)" * 25000):
            with self.assertRaises((NoText, TooGreat)):
                read_tree(written)

    def test_no_tree_with_less_than_twenty_open_and_sixty_nodes(self):
        self.refused(NoText, read_tree, "a(" * 19 + "a")
        self.refused(NoText, read_tree, "a(" * 19)
        self.refused(NoText, read_tree, "a(" * 19 + "a" + ")" * 18)
        self.refused(NoText, read_tree, "a(" * 19 + "a" + ")" * 20)
        self.refused(NoText, read_tree, "a(" + "b " * 57 + "b")
        self.refused(NoText, read_tree, "a(" + "b " * 58 + ")")


class NoTreeThere(Case):
    def all_refused(self, *some):
        for written in some:
            self.refused(NoText, read_tree, written)

    def test_empty_text(self):
        self.all_refused("")

    def test_marks(self):
        self.all_refused("lit:0", "lit:00", "lit:01", "lit:007", "lit:", "lit:0(a)", "lit:(a)", "a(lit:0)", "a(lit: b)",
                         f"lit:{10 ** 18}", f"lit:{10 ** 18 + 1}", "lit:" + "9" * 19, "lit:" + "1" * 5000,
                         f"lit:0{TOP}", "lit:-1", "lit:+1", "lit:1.0", "lit:1e3", "lit:1_0", "lit:0x1", "lit:1a", "lit:a",
                         "lit:1:2", "lit::1", "lit:1:", ":1", ":", "1", "7:lit", "lit7", "lit.7", "lit7:7", "lit=7",
                         f"a({10 ** 18})", f"a(b:{10 ** 18})", f"a:{10 ** 18}(b)", "a(b:01)", "a:01(b)", "a(b c:0)")

    def test_figures_and_letters_of_other_scripts(self):
        self.all_refused("lit:\u0663", "lit:1\u0663", "lit:\u00b2", "lit:\uff11", "\u00e9", "lit\u00e9", "\u0430",
                         "a(\u00df)", "a(b:\u0661)")

    def test_names(self):
        self.all_refused("abcdefghi", "z" * 9, "A", "Lit", "liT", "a1", "1a", "a_b", "_", "a-b", "a.b", "abcdefghi(a)",
                         "a(abcdefghi)", "a(B)", "a(b C)", "A(b)", '"a"', "'a'", "a(1)", "a([])", "a(b 1)")

    def test_brackets_without_branches(self):
        self.all_refused("lit()", "lit:7()", "a(b())", "a(b c())", "a(() b)", "a( )", "()", "(a)", "((a))", "a((b))",
                         "a(b(c)())")

    def test_brackets_too_many_or_too_few(self):
        self.all_refused("a(b", "a b)", "ab)", "a(b))", "a((b)", "a((b))", "a)b(", "a)", "a(", "(", ")", ")(", "a(b)c)",
                         "a(b(c)", "a(b(c)))", "a(b)(c)", "a(b)(", "a(b))(", "a(b)c", "a(b c", "a(b c))", "a(b c)d",
                         "a(b(c)d)", "a(b(c)(d))", "a[b]", "a{b}", "a<b>", "(a(b))", "a(b)a(b)", "a()b", "a()b)")

    def test_colons_at_a_wrong_place(self):
        self.all_refused("a(b):7", "a(:7)", "a(b :7)", "a(b: 7)", "a :7", "a: 7", "a(b):", "a:(b)", "a(7:b)", "a:b",
                         "a(b:c)", "a:7:(b)", "a(b)7", "a(b:7:7)", "a:7(b):7")

    def test_blanks_at_a_wrong_place(self):
        self.all_refused(" ", " a", "a ", "a (b)", "a( b)", "a(b )", "a(b) ", "a(b  c)", "a(b c )", "a( b c)", "a(b c) ",
                         " a(b c)", "a(b,c)", "a(b, c)", "a(b\tc)", "a(b\nc)", "a(b;c)", "a(b(c) )", "a(b( c))",
                         "a(b (c))", "a(b(c)  d)")

    def test_two_trees(self):
        for one in ("a", "a:1", "a(b)", "a:1(b c)"):
            for other in ("a", "a:1", "a(b)", "a:1(b c)"):
                for between in (" ", "\n", ",", "  "):
                    self.all_refused(one + between + other)

    def test_a_sign_of_no_writing_at_any_place(self):
        for tree, written in WRITTEN:
            for place in range(len(written) + 1):
                for sign in "\n\t\r\0\v\f\x1c\x85\u2028\u00a0AZ_-+*/='`\";,.!?[]{}<>\\#%\u00e9\u0663\u0430\ufeff":
                    with self.subTest(written=written, place=place, sign=sign):
                        self.refused_shortly(NoText, read_tree, written[:place] + sign + written[place:])


class AgainstAnotherReader(Case):
    def held(self, written):
        answer = None
        try:
            answer = read_tree(written)
        except LeafError as refusal:
            told = type(refusal).__name__
        else:
            told = "read"
        right, tree = expected(written)
        if told != right and not (right == "NoText" and told == "TooGreat" and may_be_either(written)):
            self.fail((written, told, right))
        if answer != tree:
            self.fail((written, answer))

    def test_reader_itself(self):
        for tree, written in WRITTEN + ((SIXTY, show_tree(SIXTY)),):
            self.assertEqual(expected(written), ("read", tree))
        self.assertEqual(expected(show_tree(high("a", 21)))[0], "TooGreat")
        self.assertEqual(expected(show_tree(node("a", SIXTY)))[0], "TooGreat")
        for written in ("", "a(", "a(b", "a()", "a:0", "a b", "a(b) "):
            self.assertEqual(expected(written)[0], "NoText")

    def test_one_sign_more_less_or_other(self):
        for written in [written for tree, written in WRITTEN] + [show_tree(SIXTY), show_tree(high("a", 20))]:
            for place in range(len(written) + 1):
                self.held(written[:place] + written[place + 1:])
                for sign in "019az(): \n":
                    self.held(written[:place] + sign + written[place:])
                    self.held(written[:place] + sign + written[place + 1:])

    def test_all_short_rows_of_words(self):
        rows = [""]
        for length in range(5):
            rows = [row + word for row in rows for word in ("0", "1", "a", "(", ")", " ", ":")]
            for row in rows:
                self.held(row)
                self.held("a(" + row + ")")
                self.held("a(b " + row)

    def test_rows_of_words_by_chance(self):
        source = random.Random(19)
        words = ("a", "b", "c:1", "d:20", "a(", "b(", "c:3(", ")", ")", ")", " ", " ", " ")
        for turn in range(40000):
            self.held("".join(source.choice(words) for place in range(source.randrange(1, 14))))

    def test_trees_with_a_fault_by_chance(self):
        source = random.Random(20)
        for turn in range(2000):
            written = show_tree(some_tree(source, source.randint(1, 70), NAMES, MARKS))
            place, gone = source.randrange(len(written) + 1), source.randrange(3)
            self.held(written[:place] + source.choice(("", ")", "(", " ", ":", "a", "0")) + written[place + gone:])


if __name__ == "__main__":
    unittest.main()
