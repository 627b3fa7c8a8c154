"""Point 14, and point 2 as far as it speaks of these: leafsay/grammartexts.py."""

import copy
import random
import re
import unittest

from helper import MARK, ROW, TOP, Case, WrittenCase, balanced, call, chain, num, of, text
from leafsay.errors import LeafError, NoText, TooGreat
from leafsay.grammars import let_by
from leafsay.grammartexts import read_grammar, show_grammar

WHOLE = (
    (
        ("tree", (("deep", "num"),), (("sum", "num"), ("all", "text"))),
        ("leaf", (), (("v", "row"),)),
        ("bare", (), ()),
    ),
    (
        ("fork", "tree", ("tree", "leaf", "tree"), (
            (0, "sum", call("add", of(1, "sum"), of(3, "sum"))),
            (0, "all", call("glue", of(1, "all"), text("x9"))),
            (1, "deep", call("add", of(0, "deep"), num(1))),
            (3, "deep", call("at", of(2, "v"), MARK)),
        )),
        ("one", "leaf", (), ((0, "v", ROW),)),
        ("none", "bare", (), ()),
    ),
)
WHOLE_TEXT = """sign tree down deep:num up sum:num up all:text
sign leaf up v:row
sign bare
form fork tree tree leaf tree
0.sum = add(1.sum,3.sum)
0.all = glue(1.all,"x9")
1.deep = add(0.deep,1)
3.deep = at(2.v,mark)
form one leaf
0.v = []
form none bare"""
WORDS = (
    (
        ("sign", (("down", "num"), ("up", "text")), (("num", "num"), ("mark", "row"))),
        ("form", (("form", "row"),), ()),
        ("down", (), (("down", "num"),)),
        ("up", (("up", "text"),), (("sign", "num"),)),
    ),
    (
        ("form", "form", ("form", "sign"), ((0, "mark", MARK), (1, "sign", of(2, "form")))),
        ("sign", "sign", (), ((0, "form", of(0, "add")),)),
        ("up", "down", ("up",), ()),
    ),
)
WORDS_TEXT = """sign sign down down:num down up:text up num:num up mark:row
sign form down form:row
sign down up down:num
sign up down up:text up sign:num
form form form form sign
0.mark = mark
1.sign = 2.form
form sign sign
0.form = 0.add
form up down up"""
# None of these is let by, yet each is written and read.
ODD = (
    ((), (("f", "a", ("b",), ()),)),
    ((), (("f", "a", (), ((3, "x", num(TOP)), (3, "x", text("")), (0, "abcdefgh", ROW))),)),
    ((("a", (("x", "num"),) * 5, (("x", "row"),) * 4),) * 8, ()),
    ((("a", (), ()), ("a", (), ())), (("f", "f", ("g",) * 9, ()),) * 12),
    ((("abcdefgh", (), ()),), (("zzzzzzzz", "yyyyyyyy", ("xxxxxxxx",), ((2, "wwwwwwww", of(1, "vvvvvvvv")),)),)),
    ((), (("f", "a", (), ((0, "x", call("show", ROW, ROW, text("a"))), (1, "y", call("many", num(1), num(2))))),)),
)

NAME = "[a-z]{1,8}"
SIGN_LINE = re.compile(rf"sign {NAME}( down {NAME}:(num|text|row))*( up {NAME}:(num|text|row))*")
FORM_LINE = re.compile(rf"form {NAME} {NAME}( {NAME})*")
LEAF = r'(0|[1-9][0-9]{0,17}|"[a-z0-9]{0,40}"|\[\]|mark|[0-3]\.[a-z]{1,8})'
CALL = rf"(add|glue|at|show)\({LEAF}(,{LEAF}){{0,2}}\)"
RULE_LINE = re.compile(rf"[0-3]\.{NAME} = ({LEAF}|{CALL})")


def is_written(told):
    """Told by patterns instead of a reader; of use where terms are at most 2 deep and of the deeds above."""
    letters = ""
    for line in told.split("\n"):
        found = [letter for letter, known in (("s", SIGN_LINE), ("f", FORM_LINE), ("r", RULE_LINE)) if known.fullmatch(line)]
        letters += found[0] if found else "?"
    return re.fullmatch("s*(fr*)*", letters) is not None


class There(WrittenCase):
    show = staticmethod(show_grammar)
    read_text = staticmethod(read_grammar)


class Ordinary(There):
    def test_signs_and_forms(self):
        self.read(WHOLE, WHOLE_TEXT)
        self.assertIs(let_by(WHOLE), WHOLE)

    def test_signs_alone(self):
        self.read((WHOLE[0], ()), "\n".join(WHOLE_TEXT.split("\n")[:3]))
        self.read(((("a", (), ()),), ()), "sign a")
        self.read(((("a", (("x", "num"), ("y", "row")), ()),), ()), "sign a down x:num down y:row")
        self.read(((("a", (), (("x", "num"), ("y", "row"))),), ()), "sign a up x:num up y:row")
        self.read(((("a", (("x", "text"),), (("y", "row"),)),), ()), "sign a down x:text up y:row")

    def test_forms_alone(self):
        self.read(((), WHOLE[1]), "\n".join(WHOLE_TEXT.split("\n")[3:]))
        self.read(((), (("f", "a", ("b",), ()),)), "form f a b")
        self.read(((), (("f", "a", (), ()),)), "form f a")
        self.read(((), (("f", "a", ("b", "c", "d", "e"), ()),)), "form f a b c d e")
        self.read(((), (("f", "a", (), ((0, "x", num(0)),)), ("g", "a", (), ()))), "form f a\n0.x = 0\nform g a")

    def test_names_that_are_words_of_the_writing(self):
        self.read(WORDS, WORDS_TEXT)

    def test_grammars_that_are_not_let_by(self):
        for grammar in ODD:
            with self.assertRaises(LeafError):
                let_by(grammar)
            self.there_and_back(grammar)

    def test_order_is_kept(self):
        self.there_and_back((WHOLE[0][::-1], WHOLE[1][::-1]))
        form = WHOLE[1][0]
        self.there_and_back((WHOLE[0], (form[:3] + (form[3][::-1],),)))
        self.there_and_back((tuple((s[0], s[1][::-1], s[2][::-1]) for s in WORDS[0]), WORDS[1]))

    def test_each_k_and_each_kind(self):
        for k in range(4):
            self.read(((), (("f", "a", (), ((k, "x", of(k, "y")),)),)), f"form f a\n{k}.x = {k}.y")
        for kind in ("num", "text", "row"):
            self.read(((("a", (("x", kind),), (("y", kind),)),), ()), f"sign a down x:{kind} up y:{kind}")

    def test_terms_at_their_bounds(self):
        thirty = call("show", balanced([num(1)] * 15))
        deep = chain("add", 6, of(3, "abcdefgh"))
        self.there_and_back(((), (("f", "a", (), ((0, "x", thirty), (1, "y", deep), (2, "z", text("a" * 40)))),)))

    def test_greater_terms_are_written(self):
        grammar = ((), (("f", "a", (), ((0, "x", chain("add", 30, MARK)),)),))
        self.assertEqual(show_grammar(grammar), "form f a\n0.x = " + "add(" * 29 + "mark" + ",1)" * 29)
        grammar = ((), (("f", "a", (), ((0, "x", call("show", balanced([MARK] * 100))),)),))
        self.assertEqual(show_grammar(grammar).count("mark"), 100)

    def test_long_texts(self):
        signs = tuple((name, (("x", "num"),) * 40, (("y", "row"),) * 40) for name in ("a", "b", "c") * 20)
        forms = tuple((name, "a", ("b",) * 200, ((1, "x", of(2, "y")),) * 50) for name in ("f", "g") * 25)
        for grammar in ((signs, ()), ((), forms), (signs, forms)):
            written = show_grammar(grammar)
            self.assertTrue(40000 < len(written) <= 100000, len(written))
            self.assertEqual(read_grammar(written), grammar)

    def test_what_is_handed_in_is_left(self):
        before = copy.deepcopy(WHOLE)
        show_grammar(WHOLE)
        self.assertEqual(WHOLE, before)

    def test_answers_come_of_the_arguments_alone(self):
        for turn in range(2):
            self.assertEqual(read_grammar(WHOLE_TEXT), WHOLE)
            self.refused(NoText, read_grammar, WHOLE_TEXT + "\n")
            self.assertEqual(read_grammar(WORDS_TEXT), WORDS)


class NoGrammar(Case):
    def all_refused(self, *some):
        for written in some:
            self.refused(NoText, read_grammar, written)

    def test_empty_text_and_empty_lines(self):
        self.all_refused("", "\n", "\n\n", " ", "sign a\n", "\nsign a", "sign a\n\nsign b", "form f a\n", "\nform f a",
                         "form f a\n0.x = 1\n", "form f a\n\n0.x = 1", "sign a\n\nform f a", "sign a\n ")

    def test_empty_line_at_each_place(self):
        for written in (WHOLE_TEXT, WORDS_TEXT):
            lines = written.split("\n")
            for place in range(len(lines) + 1):
                self.all_refused("\n".join(lines[:place] + [""] + lines[place:]))

    def test_blank_too_many_or_too_few(self):
        for written in (WHOLE_TEXT, WORDS_TEXT):
            for place in range(len(written) + 1):
                self.all_refused(written[:place] + "  " + written[place:], written[:place] + "\t" + written[place:])
            for found in re.finditer(" ", written):
                self.all_refused(written[:found.start()] + "  " + written[found.end():],
                                 written[:found.start()] + "\t" + written[found.end():])
            for found in re.finditer(r"^|$", written, re.MULTILINE):
                self.all_refused(written[:found.start()] + " " + written[found.end():])

    def test_other_line_ends(self):
        for end in ("\r\n", "\r", "\n\r", "\v", "\f", "\x1c", "\x85", "\u2028", ";"):
            self.all_refused(f"sign a{end}sign b", f"sign a{end}form f a", f"form f a{end}0.x = 1", f"sign a{end}",
                             f"form f a\n0.x = 1{end}1.x = 1")

    def test_lines_in_another_order(self):
        self.all_refused("form f a\nsign a", "sign a\nform f a\nsign b", "form f a\n0.x = 1\nsign a",
                         "0.x = 1", "0.x = 1\nform f a", "sign a\n0.x = 1", "sign a\n0.x = 1\nform f a",
                         "sign a down x:num\n0.x = 1\nform f a\n0.x = 1")

    def test_lines_of_signs(self):
        self.all_refused("sign", "sign ", "sign a b", "sign a down", "sign a up", "sign a x:num", "sign a down x", "sign a down x:",
                         "sign a down :num", "sign a down x num", "sign a down x: num", "sign a down x :num",
                         "sign a down x:num y:num", "sign a down x:num,y:num", "sign a down x:num up", "sign a left x:num",
                         "sign a Down x:num", "sign a downs x:num", "sign down x:num", "sign a: down x:num", "Sign a", "SIGN a",
                         "signa", "signs a", "a", "a down x:num", "sign a\tdown x:num", "sign a down x:num:num",
                         "sign a down x::num", "sign a down x:num:", "sign a = 1")

    def test_down_behind_an_up(self):
        self.all_refused("sign a up x:num down y:num", "sign a down x:num up y:num down z:num",
                         "sign a up x:num up y:num down z:num", "sign a up x:num down y:num up z:num")

    def test_kinds_that_are_none(self):
        for kind in ("", "n", "nums", "Num", "NUM", "numb", "int", "mark", "sign", "nu m", "num ", "texts", "rows", "1", "num\t"):
            self.all_refused(f"sign a down x:{kind}", f"sign a up x:{kind}", f"sign a down x:num up y:{kind}",
                             f"sign a down y:{kind} up x:num")

    def test_names_that_are_none(self):
        for name in ("", "abcdefghi", "A", "aB", "a1", "1", "a_b", "_", "a-b", "a.b", "0.a", "\u00e9", "a\u00e9", "a,", "[]", '"a"'):
            self.all_refused(f"sign {name}", f"sign a down {name}:num", f"sign a up {name}:num", f"form {name} a", f"form f {name}",
                             f"form f a {name}", f"form f a b {name}", f"form f a {name} b", f"form f a\n0.{name} = 1",
                             f"form f a\n0.x = 0.{name}", f"sign a\nsign {name}", f"form f a\nform {name} a")

    def test_lines_of_forms(self):
        self.all_refused("form", "form ", "form f", "form f ", "Form f a", "forms f a", "f a", "form f a,b", "form f: a",
                         "form f = a", "form f a(b)", "form f a -> b")

    def test_lines_of_rules(self):
        for line in ("0.x", "0.x =", "0.x = ", "0.x 1", "0.x=1", "0.x =1", "0.x= 1", "0.x == 1", "0.x := 1", "0.x = 1 2", "0.x = 1 = 2",
                     "= 1", " = 1", "x = 1", ".x = 1", "0. = 1", "0x = 1", "00.x = 1", "-1.x = 1", "10.x = 1", "0.x.y = 1",
                     "mark = 1", "1 = 0.x", "0.x : 1", "0.x = =", "rule 0.x = 1", "0.x = 1,"):
            self.all_refused(f"form f a\n{line}", f"form f a\n{line}\n1.x = 1", f"form f a\n1.x = 1\n{line}")

    def test_k_beyond_three(self):
        for k in ("4", "5", "9", "10", "33", "-1", "", "a", "\u0663"):
            self.all_refused(f"form f a\n{k}.x = 1", f"form f a\n0.x = {k}.x")

    def test_terms_that_are_none(self):
        for term in ("", "01", "x", "div(1,1)", "add(1,2", "add(1, 2)", "add()", "add(1,2,3,4)", '"A"', '"', "[", "0.X", "4.x",
                     str(10 ** 18), '"' + "a" * 41 + '"', "1)", "mark()", "add (1,2)"):
            self.all_refused(f"form f a\n0.x = {term}", f"form f a\n0.x = {term}\n1.x = 1", f"form f a\n1.x = 1\n0.x = {term}")

    def test_long_texts_that_write_none(self):
        for written in ("\n" * 100000, " " * 100000, "a" * 100000, "sign " * 20000, "sign a\n" * 14000, "form f a\n" * 11000,
                        "form f" + " a" * 49000 + " ", "sign a" + " up x:num" * 11000 + " down x:num", "0.x = 1\n" * 12000):
            with self.assertRaises(LeafError) as taken:
                read_grammar(written)
            self.assertIs(type(taken.exception), NoText)


class TooGreatTerms(Case):
    def setUp(self):
        wide = "mark"
        for level in range(4):
            wide = f"add({wide},{wide})"
        self.of_31_parts = wide
        self.terms = (wide, "show(" * 6 + "1" + ")" * 6, "add(" * 15 + "1" + ",1)" * 15, "show(" * 8000 + "1" + ")" * 8000)

    def test_at_each_place(self):
        for term in self.terms:
            for written in (
                f"form f a\n0.x = {term}",
                f"sign a up x:num\nform f a\n0.x = {term}\n0.x = 1",
                f"form f a\n0.x = 1\n0.x = {term}",
                f"form f a\nform g a\n0.x = 1\n1.x = {term}\nform h a\n0.x = mark",
                f"form f a\n0.x = {term}\n1.x = {term}",
            ):
                with self.assertRaises(LeafError) as taken:
                    read_grammar(written)
                self.assertIs(type(taken.exception), TooGreat)

    def test_refusals_class(self):
        self.refused(TooGreat, read_grammar, "form f a\n0.x = " + self.of_31_parts)

    def test_line_itself_is_none(self):
        for term in self.terms:
            for written in (
                f"0.x = {term}", f"sign a\n0.x = {term}", f"form f a\n4.x = {term}", f"form f a\n0.X = {term}",
                f"form f a\n0.x == {term}", f"form f a\n0.x = {term} ", f"form f a\n0.x =  {term}", f"form f a\n0.x={term}",
                f"form f a {term}", f"sign {term}", f"form f a\n{term}",
            ):
                with self.assertRaises(LeafError) as taken:
                    read_grammar(written)
                self.assertIs(type(taken.exception), NoText)

    def test_another_line_is_none(self):
        for term in self.terms:
            for written in (f"form f a\n0.x = {term}\n", f"form f a\n0.x = {term}\n0.x = x", f"form f a\n\n0.x = {term}"):
                with self.assertRaises((NoText, TooGreat)):
                    read_grammar(written)


class AgainstPatterns(Case):
    def held(self, written):
        try:
            answer = read_grammar(written)
        except NoText:
            told = False
        else:
            told = True
            if show_grammar(answer) != written:
                self.fail((written, answer))
        if told != is_written(written):
            self.fail((written, told))

    def test_one_sign_more_less_or_other(self):
        self.assertTrue(is_written(WHOLE_TEXT) and is_written(WORDS_TEXT))
        for written in (WHOLE_TEXT, WORDS_TEXT):
            for place in range(len(written) + 1):
                self.held(written[:place] + written[place + 1:])
                for sign in "a04 \n:.=(A":
                    self.held(written[:place] + sign + written[place:])
                    self.held(written[:place] + sign + written[place + 1:])

    def test_two_lines_changed_about(self):
        for written in (WHOLE_TEXT, WORDS_TEXT):
            lines = written.split("\n")
            for one in range(len(lines)):
                self.held("\n".join(lines[:one] + lines[one + 1:]))
                for other in range(len(lines)):
                    turned = list(lines)
                    turned[one], turned[other] = lines[other], lines[one]
                    self.held("\n".join(turned))

    def test_lines_of_words_by_chance(self):
        source = random.Random(14)
        words = ("sign", "form", "down", "up", "a", "x:num", "up:row", "=", "0.x", "3.up", "mark", "1", "add(1,0.x)")
        for turn in range(60000):
            lines = [" ".join(source.choice(words) for place in range(source.randrange(1, 6)))
                     for count in range(source.randrange(1, 3))]
            self.held("\n".join(lines))
            self.held("form f a\n" + lines[0])


if __name__ == "__main__":
    unittest.main()
