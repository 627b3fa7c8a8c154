"""Point 9, with points 4 and 6, and point 2 as far as it speaks of these: leafsay/termtexts.py."""

import random
import re
import string
import unittest

from helper import DEEDS, MARK, ROW, TOP, Case, WrittenCase, balanced, call, chain, most_open, num, of, text
from leafsay.errors import LeafError, NoText, TooGreat
from leafsay.terms import depth, parts
from leafsay.termtexts import read_term, show_term

SIGNS = string.ascii_lowercase + string.digits
WORDS = DEEDS + ("mark", "num", "text", "row", "of", "call", "a", "z", "abcdefgh", "zzzzzzzz")
THIRTY = call("show", balanced([num(1)] * 15))
SIX_DEEP = chain("add", 6, of(0, "a"))
# Ordinary ones, of every sort, with what is written for them.
WRITTEN = (
    (num(0), "0"),
    (num(7), "7"),
    (num(10), "10"),
    (num(909), "909"),
    (num(10 ** 17), "100000000000000000"),
    (num(TOP), "999999999999999999"),
    (text(""), '""'),
    (text("a"), '"a"'),
    (text("007"), '"007"'),
    (text("mark"), '"mark"'),
    (text("ab" * 20), '"' + "ab" * 20 + '"'),
    (ROW, "[]"),
    (MARK, "mark"),
    (of(0, "a"), "0.a"),
    (of(1, "mark"), "1.mark"),
    (of(2, "add"), "2.add"),
    (of(3, "abcdefgh"), "3.abcdefgh"),
    (call("show", num(5)), "show(5)"),
    (call("add", MARK, num(12)), "add(mark,12)"),
    (call("pick", of(0, "n"), text("yes"), text("")), 'pick(0.n,"yes","")'),
    (call("put", ROW, call("sub", of(1, "x"), num(1))), "put([],sub(1.x,1))"),
    (call("glue", call("show", call("many", ROW)), of(2, "t")), "glue(show(many([])),2.t)"),
    (call("pick", call("less", MARK, num(3)), ROW, call("link", of(1, "r"), of(2, "r"))),
     "pick(less(mark,3),[],link(1.r,2.r))"),
)

LEAF = r'(?:0|[1-9][0-9]{0,17}|"[a-z0-9]{0,40}"|\[\]|mark|[0-3]\.[a-z]{1,8})'
DEED = "(?:" + "|".join(DEEDS) + ")"


def pattern(levels):
    told = LEAF
    for level in range(levels - 1):
        told = rf"(?:{LEAF}|{DEED}\({told}(?:,{told}){{0,2}}\))"
    return re.compile(told)


SHALLOW, DEEPER = pattern(6), pattern(8)


def expected(written):
    """Told by patterns instead of a reader: "read", or the name of the refusal; of no use beyond 8 deep."""
    if not DEEPER.fullmatch(written):
        return "NoText"
    count = written.count("(") + len(re.findall(r"(?:(?<=^)|(?<=[(,]))" + LEAF + r"(?=[),]|$)", written))
    return "read" if SHALLOW.fullmatch(written) and count <= 30 else "TooGreat"


def may_be_either(written):
    return most_open(written) >= 6 or len(re.findall(r"[a-z0-9.\"\[\]]+", written)) >= 30


def some_term(source, levels):
    sort = source.randrange(9 if levels > 1 else 5)
    if sort == 0:
        return num(source.choice((0, 1, 9, 10, 123, TOP, source.randrange(TOP))))
    if sort == 1:
        return text("".join(source.choice(SIGNS) for place in range(source.choice((0, 1, 2, 39, 40)))))
    if sort == 2:
        return ROW
    if sort == 3:
        return MARK
    if sort == 4:
        return of(source.randrange(4), source.choice(WORDS))
    return call(source.choice(DEEDS), *[some_term(source, levels - 1) for place in range(source.randrange(1, 4))])


class Read(WrittenCase):
    show = staticmethod(show_term)
    read_text = staticmethod(read_term)


class Ordinary(Read):
    def test_each_sort(self):
        for term, written in WRITTEN:
            self.read(term, written)

    def test_nums(self):
        for number in list(range(120)) + [10 ** power for power in range(18)] + [10 ** power - 1 for power in range(19)]:
            self.read(num(number), str(number))

    def test_texts_of_each_length_and_sign(self):
        for length in range(41):
            self.read(text("a" * length), '"' + "a" * length + '"')
            self.read(text("0" * length), '"' + "0" * length + '"')
        for sign in SIGNS:
            self.read(text(sign), f'"{sign}"')

    def test_texts_that_look_like_terms(self):
        for word in WORDS + ("0a", "12", "010"):
            self.read(text(word), f'"{word}"')

    def test_names_of_each_length_and_letter(self):
        for k in range(4):
            for length in range(1, 9):
                self.read(of(k, "q" * length), f"{k}." + "q" * length)
            for letter in string.ascii_lowercase:
                self.read(of(k, letter), f"{k}.{letter}")

    def test_names_that_are_words_of_the_writing(self):
        for word in WORDS:
            self.read(of(3, word), f"3.{word}")
            self.read(call("add", of(0, word), of(1, word)), f"add(0.{word},1.{word})")

    def test_each_deed_with_one_two_and_three_terms(self):
        for deed in DEEDS:
            self.read(call(deed, MARK), f"{deed}(mark)")
            self.read(call(deed, text(""), of(2, "t")), f'{deed}("",2.t)')
            self.read(call(deed, ROW, num(0), text("a")), f'{deed}([],0,"a")')

    def test_calls_at_each_place(self):
        inner = call("size", text("ab"))
        self.read(call("pick", inner, MARK, MARK), 'pick(size("ab"),mark,mark)')
        self.read(call("pick", MARK, inner, MARK), 'pick(mark,size("ab"),mark)')
        self.read(call("pick", MARK, MARK, inner), 'pick(mark,mark,size("ab"))')
        self.read(call("pick", inner, inner, inner), 'pick(size("ab"),size("ab"),size("ab"))')

    def test_many_terms(self):
        source = random.Random(9)
        found = 0
        while found < 3000:
            term = some_term(source, 6)
            if parts(term) <= 30:
                self.there_and_back(term)
                found += 1

    def test_unlike_terms_are_written_unlike(self):
        source = random.Random(10)
        told = {}
        for turn in range(3000):
            term = some_term(source, 3)
            self.assertEqual(told.setdefault(show_term(term), term), term)

    def test_answers_come_of_the_arguments_alone(self):
        for term, written in WRITTEN:
            self.assertEqual(read_term(written), read_term(written))
            self.refused(NoText, read_term, written + ",")
            self.assertEqual(read_term(written), term)


class Great(Read):
    def test_just_thirty_parts(self):
        self.assertEqual(parts(THIRTY), 30)
        self.there_and_back(THIRTY)
        for leaf in (MARK, ROW, text("a" * 40), num(TOP), of(3, "abcdefgh")):
            nine = balanced([leaf] * 5)
            term = call("pick", call("show", nine), call("show", nine), nine)
            self.assertEqual(parts(term), 30)
            self.there_and_back(term)

    def test_thirty_one_parts(self):
        for leaf in (MARK, ROW, text("a" * 40), num(TOP), of(3, "abcdefgh")):
            nine = call("show", balanced([leaf] * 5))
            for term in (balanced([leaf] * 16), call("pick", nine, nine, nine)):
                self.assertEqual(parts(term), 31)
                self.assertLessEqual(depth(term), 6)
                self.refused(TooGreat, read_term, show_term(term))

    def test_just_six_deep(self):
        for deed in ("add", "show", "pick"):
            term = of(1, "b")
            for level in range(5):
                term = call(deed, *[MARK] * {"add": 1, "show": 0, "pick": 2}[deed], term)
            self.assertEqual(depth(term), 6)
            self.there_and_back(term)
        self.assertEqual(depth(SIX_DEEP), 6)
        self.there_and_back(SIX_DEEP)

    def test_seven_deep(self):
        for lowest in (MARK, ROW, text(""), num(0), of(0, "a")):
            self.refused(TooGreat, read_term, show_term(chain("add", 7, lowest)))
        self.refused(TooGreat, read_term, "show(" * 6 + "1" + ")" * 6)
        for place in range(3):
            terms = [MARK, MARK, MARK]
            terms[place] = SIX_DEEP
            self.refused(TooGreat, read_term, show_term(call("pick", *terms)))

    def test_depth_counts_open_calls_alone(self):
        self.there_and_back(call("pick", *[chain("show", 5, MARK)] * 3))
        self.there_and_back(call("add", chain("add", 5, MARK), chain("add", 5, MARK)))

    def test_greater_ones_are_written(self):
        self.assertEqual(show_term(chain("add", 7, MARK)), "add(" * 6 + "mark" + ",1)" * 6)
        self.assertEqual(show_term(chain("add", 30, MARK)), "add(" * 29 + "mark" + ",1)" * 29)
        wide = call("show", balanced([num(7)] * 100))
        self.assertEqual(parts(wide), 200)
        written = show_term(wide)
        self.assertEqual((written.count("7"), written.count("add("), written.count(",")), (100, 99, 99))
        self.refused(TooGreat, read_term, written)
        self.refused(TooGreat, read_term, show_term(chain("add", 30, MARK)))

    def test_as_great_as_a_text_may_be(self):
        levels = 16665
        deep = "show(" * levels + "12345" + ")" * levels
        self.assertLessEqual(len(deep), 100000)
        self.refused_shortly(TooGreat, read_term, deep)
        self.refused_shortly(TooGreat, read_term, "pick(" * 9000 + "1" + ",2,3)" * 9000)
        wide = "[]"
        while 2 * len(wide) + 7 <= 100000:
            wide = f"link({wide},{wide})"
        self.refused_shortly(TooGreat, read_term, wide)

    def test_long_texts_that_write_no_term(self):
        for written in (
            "1" * 100000, "0" * 100000, "a" * 100000, ")" * 100000, "," * 100000, "[]" * 50000, " " * 100000,
            '"' + "a" * 99998 + '"', '"' * 100000, "0." + "a" * 99998,
        ):
            self.refused_shortly(NoText, read_term, written)
        for written in (
            "(" * 100000, "add(" * 25000, "add(1," * 16000, "show(" * 10000 + "1" + ")" * 9999, "add(" + "1," * 49997 + "1)",
        ):
            self.either(written)

    def either(self, written):
        with self.assertRaises((NoText, TooGreat)):
            read_term(written)

    def test_no_term_with_less_than_six_open_and_thirty_parts(self):
        self.refused(NoText, read_term, "add(" * 5 + "1")
        self.refused(NoText, read_term, "add(" * 5)
        self.refused(NoText, read_term, "add(" * 5 + "1" + ")" * 4)
        self.refused(NoText, read_term, "add(" * 5 + "1" + ")" * 6)
        self.refused(NoText, read_term, show_term(THIRTY)[5:-1] + ")")
        self.refused(NoText, read_term, show_term(THIRTY)[5:-1] + "x")


class NoTerm(Case):
    def all_refused(self, *some):
        for written in some:
            self.refused(NoText, read_term, written)

    def test_empty_text(self):
        self.all_refused("")

    def test_nums(self):
        self.all_refused("00", "01", "007", "0" * 18, "0" + str(TOP), str(10 ** 18), str(10 ** 18 + 1), "9" * 19,
                         "1" * 5000, "-1", "+1", "-0", "1.0", "1.", "0.", ".0", "1e3", "1_0", "0x1", "1a", "a1")

    def test_nums_in_calls(self):
        self.all_refused("show(00)", "show(01)", f"show({10 ** 18})", f"add(1,{10 ** 18})", "add(01,1)", "add(1,-1)")

    def test_figures_of_other_scripts(self):
        self.all_refused("\u0663", "1\u0663", "\u00b2", "\uff11", "\u0661.a", '"\u0663"', "show(\u0663)")

    def test_texts(self):
        self.all_refused('"' + "a" * 41 + '"', '"' + "1" * 41 + '"', '"', 'a"', '"a', '"""', '""""', '"a""', '""a"',
                         '"a""b"', '"A"', '"a b"', '" "', '"_"', '"a-b"', '"a,b"', '"(a)"', '"[]"', '"\\n"', '"\n"',
                         "'a'", "''", '"a\\""', '"\u00e9"', '"0.a"', 'size("' + "a" * 41 + '")', 'size(")', 'size("a)')

    def test_rows(self):
        self.all_refused("[", "]", "][", "[[]]", "[]]", "[[]", "[1]", "[,]", "[ ]", "[][]", "()", "row", "(row)")

    def test_values(self):
        self.all_refused("4.a", "5.a", "9.a", "10.a", "00.a", "-1.a", ".a", "a", "0.", "0a", "0..a", "0.a.b",
                         "0.abcdefghi", "3." + "z" * 9, "0.A", "0.aB", "0.a1", "0.1", "0.a_b", "0.\u00e9", "0,a",
                         "0.a b", "0:a", "a.0", "mark.a", "0.[]", '0."a"', "1.a0", "01.a", "show(4.a)", "add(0.a,.b)")

    def test_unknown_words(self):
        self.all_refused("marks", "Mark", "MARK", "mar", "num", "text", "of", "call", "div(1,1)", "ADD(1,1)", "Add(1,1)",
                         "mark(1)", "num(1)", "row(1)", "of(0,a)", "ad(1,1)", "addd(1,1)", "1(1)", '"a"(1)', "[](1)",
                         "0.a(1)", "0.add(1)", "(1)", "(1,2)", "show(div(1))", "show((1))", "show(mark(1))")

    def test_deeds_without_terms(self):
        for deed in DEEDS:
            self.all_refused(deed, f"{deed}()", f"{deed}(", f"{deed})", f"show({deed})", f"show({deed}())", f"{deed}[]",
                             f"{deed},", f"{deed}.a")

    def test_four_terms(self):
        for deed in DEEDS:
            self.all_refused(f"{deed}(1,2,3,4)", f"{deed}(mark,[],0.a,\"\")", f"show({deed}(1,2,3,4))",
                             f"{deed}(1,2,3,show(4))", f"{deed}(1,2,3,4,5)")

    def test_brackets_and_commas_too_many_or_too_few(self):
        self.all_refused("add(1,2", "add 1,2)", "add1,2)", "add(1,2))", "add((1,2)", "add((1,2))", "add(1),2", "(add(1,2))",
                         "add(1,2),", ",add(1,2)", "add(,1)", "add(1,)", "add(1,,2)", "add(,)", "add(12,)", "1,2", "1,", ",1",
                         ",", "(", ")", "()", ")(", "1)", "(1", "mark)", "mark(", "mark()", "add(1,2)(3)", "add(1)(2)",
                         "add(1)add(2)", "add(1)2", "2add(1)", "add(1)mark", "add(1),add(2)", "add(show(1),2", "add(show(1,2)",
                         "add(show(1)),2)", "add(show(1)2)", "add(show(1)(2))", "add(1;2)", "add[1,2]", "add{1,2}",
                         "add(1.2)", "add(show(1),)", "add(,show(1))", "show(1)show(1)", "show()1)", "show(1()")

    def test_a_sign_of_no_writing_at_any_place(self):
        for term, written in WRITTEN:
            for place in range(len(written) + 1):
                for sign in " \n\t\r\0\v\f\x1c\x85\u2028\u00a0AZ_-+*/='`;:!?{}<>\\#%\u00e9\u0663\ufeff":
                    with self.subTest(written=written, place=place, sign=sign):
                        with self.assertRaises(LeafError) as taken:
                            read_term(written[:place] + sign + written[place:])
                        self.assertIs(type(taken.exception), NoText)

    def test_two_terms_side_by_side(self):
        for one, other in (("mark", "mark"), ("[]", "1"), ("1", "[]"), ('""', '""'), ("0.a", "[]"), ("show(1)", "1")):
            for between in ("", ",", " ", "\n"):
                self.all_refused(one + between + other)


class AgainstPatterns(Case):
    def held(self, written):
        try:
            answer = read_term(written)
        except LeafError as refusal:
            told = type(refusal).__name__
        else:
            told = "read"
            if show_term(answer) != written:
                self.fail((written, answer))
        right = expected(written)
        if told != right and not (right == "NoText" and told == "TooGreat" and may_be_either(written)):
            self.fail((written, told, right))

    def test_patterns_themselves(self):
        for term, written in WRITTEN:
            self.assertEqual(expected(written), "read")
        self.assertEqual(expected(show_term(THIRTY)), "read")
        self.assertEqual(expected(show_term(call("show", THIRTY))), "TooGreat")
        self.assertEqual(expected(show_term(chain("add", 7, MARK))), "TooGreat")
        self.assertEqual(expected("add(1,2"), "NoText")

    def test_one_sign_more_less_or_other(self):
        for written in [written for term, written in WRITTEN] + [show_term(THIRTY), show_term(SIX_DEEP)]:
            for place in range(len(written) + 1):
                self.held(written[:place] + written[place + 1:])
                for sign in '0139ak"[](),. ':
                    self.held(written[:place] + sign + written[place:])
                    self.held(written[:place] + sign + written[place + 1:])

    def test_all_short_rows_of_words(self):
        words = ("0", "1", "a", "mark", "show", "(", ")", ",", ".", '"', "[", "]")
        rows = [""]
        for length in range(4):
            rows = [row + word for row in rows for word in words]
            for row in rows:
                self.held(row)
                self.held("show(" + row + ")")
                self.held("add(1," + row)

    def test_rows_of_words_by_chance(self):
        source = random.Random(11)
        words = ("0", "12", "mark", "[]", '"a"', "1.b", "add(", "show(", "pick(", ")", ")", ")", ",", ",", ",")
        for turn in range(40000):
            self.held("".join(source.choice(words) for place in range(source.randrange(1, 14))))

    def test_terms_with_a_fault_by_chance(self):
        source = random.Random(12)
        for turn in range(1500):
            written = show_term(some_term(source, 5))
            place, size = source.randrange(len(written) + 1), source.randrange(3)
            self.held(written[:place] + source.choice(("", ")", "(", ",", '"', "a", "0")) + written[place + size:])


if __name__ == "__main__":
    unittest.main()
