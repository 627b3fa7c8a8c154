"""Points 10, 11 and 13, and point 2 as far as it speaks of these: leafsay/grammars.py."""

import copy
import unittest

from helper import MARK, ROW, Case, balanced, call, chain, num, of, text
from leafsay.errors import NoKind, NoName, NoRule, TooGreat
from leafsay.grammars import due_values, form_row, let_by, rule_of, sign_row, value_kinds
from leafsay.terms import depth, parts

# Signs with no, one and two downs and ups; `fork` has branches of its head's own sign.
TREE = ("tree", (("deep", "num"),), (("sum", "num"), ("all", "text")))
LEAF = ("leaf", (), (("v", "num"),))
TOLD = ("told", (("x", "row"), ("y", "text")), ())
BARE = ("bare", (), ())
BOTH = ("both", (("a", "num"), ("b", "row")), (("c", "row"), ("d", "text")))
FORK = ("fork", "tree", ("tree", "leaf", "tree"), (
    (0, "sum", call("add", of(1, "sum"), of(3, "sum"))),
    (0, "all", call("glue", of(1, "all"), of(3, "all"))),
    (1, "deep", call("add", of(0, "deep"), num(1))),
    (3, "deep", of(2, "v")),
))
ONE = ("one", "leaf", (), ((0, "v", MARK),))
HEAR = ("hear", "told", ("bare",), ())
NONE = ("none", "bare", (), ())
MIX = ("mix", "both", ("told", "both"), (
    (2, "b", ROW),
    (1, "y", of(2, "d")),
    (0, "d", text("d")),
    (0, "c", of(2, "c")),
    (1, "x", call("put", of(0, "b"), of(0, "a"))),
    (2, "a", MARK),
))
SIGNS = (TREE, LEAF, TOLD, BARE, BOTH)
FORMS = (FORK, ONE, HEAR, NONE, MIX)
GRAMMAR = (SIGNS, FORMS)


class Rows(Case):
    def test_each_sign_and_form(self):
        for sign in SIGNS:
            self.assertEqual(sign_row(GRAMMAR, sign[0]), sign)
        for form in FORMS:
            self.assertEqual(form_row(GRAMMAR, form[0]), form)

    def test_other_names(self):
        for name in ("x", "trees", "tre", "fork", "one", "sum", "sign", ""):
            self.refused(NoName, sign_row, GRAMMAR, name)
        for name in ("x", "forks", "for", "tree", "leaf", "sum", "form", ""):
            self.refused(NoName, form_row, GRAMMAR, name)

    def test_sign_and_form_of_one_name(self):
        sign, form = ("same", (), ()), ("same", "same", (), ())
        self.assertEqual(sign_row(((sign,), (form,)), "same"), sign)
        self.assertEqual(form_row(((sign,), (form,)), "same"), form)

    def test_grammars_that_are_not_let_by(self):
        signs = tuple((name, (("a", "num"),) * 3, ()) for name in "abcdefgh")
        forms = tuple((name, "nosign", ("b",) * 5, ((3, "q", of(2, "z")),)) for name in "abcdefghijklm")
        for grammar in ((signs, forms), (signs, ()), ((), forms), ((), ())):
            self.refused(NoName, sign_row, grammar, "z")
            self.refused(NoName, form_row, grammar, "z")
            for row in grammar[0]:
                self.assertEqual(sign_row(grammar, row[0]), row)
            for row in grammar[1]:
                self.assertEqual(form_row(grammar, row[0]), row)
        self.refused(NoName, sign_row, ((), forms), "a")
        self.refused(NoName, form_row, (signs, ()), "a")


class Values(Case):
    def test_grammar_itself_is_let_by(self):
        self.assertIs(let_by(GRAMMAR), GRAMMAR)

    def test_values_in_their_order_with_their_kinds(self):
        self.assertEqual(list(value_kinds(GRAMMAR, FORK).items()), [
            ((0, "deep"), "num"), ((0, "sum"), "num"), ((0, "all"), "text"),
            ((1, "deep"), "num"), ((1, "sum"), "num"), ((1, "all"), "text"),
            ((2, "v"), "num"),
            ((3, "deep"), "num"), ((3, "sum"), "num"), ((3, "all"), "text"),
        ])
        self.assertEqual(list(value_kinds(GRAMMAR, ONE).items()), [((0, "v"), "num")])
        self.assertEqual(list(value_kinds(GRAMMAR, HEAR).items()), [((0, "x"), "row"), ((0, "y"), "text")])
        self.assertEqual(value_kinds(GRAMMAR, NONE), {})
        self.assertEqual(list(value_kinds(GRAMMAR, MIX).items()), [
            ((0, "a"), "num"), ((0, "b"), "row"), ((0, "c"), "row"), ((0, "d"), "text"),
            ((1, "x"), "row"), ((1, "y"), "text"),
            ((2, "a"), "num"), ((2, "b"), "row"), ((2, "c"), "row"), ((2, "d"), "text"),
        ])

    def test_due_values_in_their_order(self):
        self.assertEqual(due_values(GRAMMAR, FORK), [(0, "sum"), (0, "all"), (1, "deep"), (3, "deep")])
        self.assertEqual(due_values(GRAMMAR, ONE), [(0, "v")])
        self.assertEqual(due_values(GRAMMAR, HEAR), [])
        self.assertEqual(due_values(GRAMMAR, NONE), [])
        self.assertEqual(
            due_values(GRAMMAR, MIX), [(0, "c"), (0, "d"), (1, "x"), (1, "y"), (2, "a"), (2, "b")])

    def test_kinds_of_answers(self):
        for form in FORMS:
            self.assertIs(type(value_kinds(GRAMMAR, form)), dict)
            self.assertIs(type(due_values(GRAMMAR, form)), list)
            for pair in list(value_kinds(GRAMMAR, form)) + due_values(GRAMMAR, form):
                self.assertEqual([type(pair), type(pair[0]), type(pair[1])], [tuple, int, str])

    def test_told_lists_and_dicts_may_be_altered(self):
        for form in FORMS:
            kinds, due = value_kinds(GRAMMAR, form), due_values(GRAMMAR, form)
            kept_kinds, kept_due = list(kinds.items()), list(due)
            kinds[(0, "other")] = "text"
            for pair in kept_kinds:
                kinds[pair[0]] = "none"
            due.append((3, "other"))
            due.reverse()
            self.assertEqual(list(value_kinds(GRAMMAR, form).items()), kept_kinds)
            self.assertEqual(due_values(GRAMMAR, form), kept_due)
            value_kinds(GRAMMAR, form).clear()
            due_values(GRAMMAR, form).clear()
            self.assertEqual(list(value_kinds(GRAMMAR, form).items()), kept_kinds)
            self.assertEqual(due_values(GRAMMAR, form), kept_due)
        self.assertIs(let_by(GRAMMAR), GRAMMAR)

    def test_answers_come_of_the_arguments_alone(self):
        other = ((("tree", (("sum", "row"),), (("deep", "text"),)), LEAF), ())
        form = ("fork", "tree", ("leaf",), ((0, "deep", text("")),))
        for turn in range(2):
            self.assertEqual(due_values(GRAMMAR, FORK)[0], (0, "sum"))
            self.assertEqual(due_values(other, form), [(0, "deep")])
            self.assertEqual(
                list(value_kinds(other, form).items()), [((0, "sum"), "row"), ((0, "deep"), "text"), ((1, "v"), "num")])
            self.assertEqual(value_kinds(GRAMMAR, FORK)[(0, "sum")], "num")

    def test_what_is_handed_in_is_left(self):
        before = copy.deepcopy(GRAMMAR)
        for form in FORMS:
            value_kinds(GRAMMAR, form), due_values(GRAMMAR, form)
        let_by(GRAMMAR)
        self.assertEqual(GRAMMAR, before)


class Rule(Case):
    def test_each_rule(self):
        for form in FORMS:
            for k, name, term in form[3]:
                self.assertEqual(rule_of(form, k, name), term)
            self.assertEqual(
                [rule_of(form, k, name) for k, name in due_values(GRAMMAR, form)],
                [dict(((k, name), term) for k, name, term in form[3])[pair] for pair in due_values(GRAMMAR, form)])

    def test_values_without_a_rule(self):
        self.refused(NoRule, rule_of, FORK, 0, "deep")
        self.refused(NoRule, rule_of, FORK, 1, "sum")
        self.refused(NoRule, rule_of, FORK, 2, "v")
        self.refused(NoRule, rule_of, FORK, 2, "deep")
        self.refused(NoRule, rule_of, FORK, 0, "other")
        self.refused(NoRule, rule_of, ONE, 1, "v")
        self.refused(NoRule, rule_of, ONE, 0, "w")
        self.refused(NoRule, rule_of, HEAR, 0, "x")
        self.refused(NoRule, rule_of, NONE, 0, "a")
        self.refused(NoRule, rule_of, MIX, 2, "c")
        self.refused(NoRule, rule_of, MIX, 1, "a")


class LetBy(Case):
    def let(self, signs, forms):
        grammar = (signs, forms)
        with self.subTest(grammar=grammar):
            self.assertIs(let_by(grammar), grammar)

    def test_the_least(self):
        self.let((BARE,), ())
        self.let((TREE,), ())
        self.let((BARE,), (NONE,))

    def test_signs_without_forms_and_branches_without_forms(self):
        self.let(SIGNS, ())
        self.let((BARE, LEAF), (("f", "bare", ("leaf", "bare", "leaf"), ()),))

    def test_six_signs(self):
        self.let(tuple((name, (), ()) for name in "abcdef"), ())

    def test_ten_forms(self):
        self.let((BARE,), tuple((name, "bare", (), ()) for name in "abcdefghij"))

    def test_greatest_grammar(self):
        self.let(*GREATEST)

    def test_thirty_parts_and_six_deep(self):
        term = call("add", call("size", text("a")), balanced([MARK] * 14))
        self.assertEqual((parts(term), depth(term)), (30, 6))
        self.let((LEAF,), (("f", "leaf", (), ((0, "v", term),)),))

    def test_rules_in_any_order(self):
        rules = FORK[3]
        for turn in range(len(rules)):
            rules = rules[1:] + rules[:1]
            self.let(SIGNS, (FORK[:3] + (rules,),))
            self.let(SIGNS, (FORK[:3] + (rules[::-1],),))

    def test_one_name_for_unlike_things(self):
        sign = ("same", (("same", "num"),), (("up", "num"),))
        form = ("same", "same", ("same",), ((0, "up", of(0, "same")), (1, "same", of(1, "up"))))
        self.let((sign,), (form,))
        self.let((sign, ("other", (("up", "row"),), (("same", "text"),))), (form,))

    def test_names_that_are_words(self):
        sign = ("sign", (("down", "num"), ("up", "text")), (("num", "num"), ("mark", "row")))
        form = ("form", "sign", ("sign",), (
            (0, "num", of(0, "down")), (0, "mark", of(1, "mark")), (1, "down", MARK), (1, "up", of(1, "up"))))
        self.let((sign,), (form,))

    def test_a_term_may_name_every_value_of_its_form_so_too_its_own(self):
        for pair, kind in value_kinds(GRAMMAR, FORK).items():
            if kind == "num":
                for ruled in ((0, "sum"), (1, "deep"), (3, "deep")):
                    rules = tuple((k, name, of(*pair) if (k, name) == ruled else term) for k, name, term in FORK[3])
                    self.let(SIGNS, (FORK[:3] + (rules,),))

    def test_each_deed(self):
        sign = ("s", (("n", "num"), ("t", "text")), (("m", "num"), ("r", "row")))
        n, t, m, r = of(0, "n"), of(0, "t"), of(0, "m"), of(0, "r")
        for to_num in (
            call("add", n, m), call("sub", n, num(1)), call("mul", n, n), call("less", MARK, n), call("size", t),
            call("at", r, n), call("many", r), call("pick", n, m, MARK), call("size", call("glue", t, call("show", n))),
        ):
            for to_row in (ROW, r, call("put", r, n), call("link", r, ROW), call("pick", n, r, ROW)):
                self.let((sign,), (("f", "s", (), ((0, "m", to_num), (0, "r", to_row))),))


def constant(kind, place):
    return {"num": num(place), "text": text(f"a{place}"), "row": call("put", ROW, num(place))}[kind]


def ruled_form(signs, name, head, branches):
    kinds = value_kinds((signs, ()), (name, head, branches, ()))
    due = due_values((signs, ()), (name, head, branches, ()))
    return (name, head, branches, tuple((k, told, constant(kinds[(k, told)], place)) for place, (k, told) in enumerate(due)))


# At every bound at once, and with room on all sides for a fault.
GREAT_SIGNS = tuple(
    (name, (("p", "num"), ("q", "text")), (("r", "row"), ("s", "num"))) for name in ("sa", "sb", "sc", "sd", "se", "sf"))
GREATEST = (GREAT_SIGNS, tuple(
    ruled_form(GREAT_SIGNS, "f" + letter, head, ("sb", head, "sf"))
    for letter, head in zip("abcdefghij", ("sa", "sb", "sc", "sd", "se", "sf", "sa", "sb", "sf", "sf"))))
SMALLER = (GREAT_SIGNS[:5], tuple(
    ruled_form(GREAT_SIGNS, "f" + letter, head, branches)
    for letter, head, branches in (("a", "sa", ("sb", "sc")), ("b", "sb", ("sa",)), ("c", "se", ("sd", "se", "sa")))))


def replaced(row, place, thing):
    place %= len(row)
    return row[:place] + (thing,) + row[place + 1:]


def at_sign(change):
    def fault(grammar, place):
        sign = grammar[0][place % len(grammar[0])]
        return (replaced(grammar[0], place, change(sign)), grammar[1])
    return fault


def at_form(change):
    def fault(grammar, place):
        form = grammar[1][place % len(grammar[1])]
        return (grammar[0], replaced(grammar[1], place, change(form)))
    return fault


def at_rule(which, change):
    return at_form(lambda form: form[:3] + (replaced(form[3], which, change(form[3][which])),))


def with_rules(more):
    return at_form(lambda form: form[:3] + (more(form[3]),))


def other_kind(term):
    return text("x") if term[0] == "num" else num(1)


TOO_GREAT = {
    "no signs": lambda grammar, place: ((), grammar[1]),
    "seven signs": lambda grammar, place: (
        tuple(("more" + letter, (), ()) for letter in "abcdefg"[len(grammar[0]):]) + grammar[0], grammar[1]),
    "eleven forms": lambda grammar, place: (grammar[0], grammar[1] + tuple(
        ("more" + letter, grammar[0][0][0] if grammar[0] else "sa", (), ()) for letter in "abcdefghijk"[len(grammar[1]):])),
    "three downs": at_sign(lambda sign: (sign[0], sign[1] + (("w", "num"),), sign[2])),
    "three ups": at_sign(lambda sign: (sign[0], sign[1], sign[2] + (("w", "num"),))),
    "four branches": at_form(lambda form: (form[0], form[1], (form[2] + ("sa", "sa", "sa"))[:4], form[3])),
}
TOO_GREAT_TERMS = {
    "31 parts": balanced([num(1)] * 16),
    "200 parts": call("show", balanced([num(1)] * 100)),
    "7 deep": chain("add", 7, num(1)),
    "30 deep": chain("add", 30, num(1)),
}
NO_NAME = {
    "two signs of one name": at_sign(lambda sign: ("sa" if sign[0] != "sa" else "sb",) + sign[1:]),
    "two forms of one name": at_form(lambda form: ("fa" if form[0] != "fa" else "fb",) + form[1:]),
    "two downs of one name": at_sign(lambda sign: (sign[0], (("p", "num"), ("p", "text")), sign[2])),
    "two ups of one name": at_sign(lambda sign: (sign[0], sign[1], (("r", "row"), ("r", "num")))),
    "down and up of one name": at_sign(lambda sign: (sign[0], sign[1], (("r", "row"), ("p", "num")))),
    "head that is none": at_form(lambda form: (form[0], "none") + form[2:]),
    "head called like a form": at_form(lambda form: (form[0], "fa") + form[2:]),
    "first branch that is none": at_form(lambda form: form[:2] + (("none",) + form[2][1:], form[3])),
    "last branch that is none": at_form(lambda form: form[:2] + (form[2][:-1] + ("none",), form[3])),
}
NO_NAME_TERMS = {
    "other name": of(0, "none"),
    "sign's name": of(0, "sa"),
    "within": call("add", num(1), call("add", of(0, "p"), of(0, "none"))),
    "at the left": call("add", of(0, "none"), num(1)),
}
NO_RULE = {
    "no rules": with_rules(lambda rules: ()),
    "first lacks": with_rules(lambda rules: rules[1:]),
    "last lacks": with_rules(lambda rules: rules[:-1]),
    "middle lacks": with_rules(lambda rules: rules[:1] + rules[2:]),
    "first twice": with_rules(lambda rules: rules[:1] + rules),
    "last twice": with_rules(lambda rules: rules + rules[-1:]),
    "twice, with two terms": with_rules(lambda rules: rules + ((0, "s", num(77)),)),
    "one twice for another": with_rules(lambda rules: rules[:1] + rules[:1] + rules[2:]),
    "rule for a head's down": with_rules(lambda rules: rules + ((0, "p", num(1)),)),
    "rule for a branch's up": with_rules(lambda rules: ((1, "s", num(1)),) + rules),
    "rule for a down in an up's place": with_rules(lambda rules: ((0, "q", text("")),) + rules[1:]),
}
NO_KIND_TERMS = {
    "too few terms": call("add", num(1)),
    "too many terms": call("show", num(1), num(1)),
    "term of another kind": call("add", num(1), text("")),
    "within": call("pick", num(1), num(1), call("many", call("put", ROW, ROW))),
    "pick of two kinds": call("pick", num(1), num(1), text("a")),
    "value of another kind": call("add", of(0, "q"), num(1)),
}


def with_term_faults(faults, terms):
    faults = dict(faults)
    for told, term in terms.items():
        for which in (0, 1, -1):
            faults[f"{told} in rule {which}"] = at_rule(which, lambda rule, term=term: rule[:2] + (term,))
    return faults


def row_faults():
    too_great = with_term_faults(TOO_GREAT, TOO_GREAT_TERMS)
    no_name = with_term_faults(NO_NAME, NO_NAME_TERMS)
    no_kind = with_term_faults({}, NO_KIND_TERMS)
    for which in (0, 1, -1):
        no_name[f"rule {which} for no value"] = at_rule(which, lambda rule: (rule[0], "none", rule[2]))
        no_kind[f"rule {which} of another kind"] = at_rule(which, lambda rule: rule[:2] + (other_kind(rule[2]),))
    no_name["rule for an unknown value more"] = with_rules(lambda rules: rules + ((0, "none", num(1)),))
    return ((TooGreat, too_great), (NoName, no_name), (NoRule, NO_RULE), (NoKind, no_kind))


ROWS = row_faults()
PLACES = (0, 1, -1)


class Refused(Case):
    def test_grammars_without_a_fault(self):
        self.assertIs(let_by(SMALLER), SMALLER)
        self.assertIs(let_by(GREATEST), GREATEST)

    def test_each_fault_at_each_place(self):
        for refusal, faults in ROWS:
            for told, fault in faults.items():
                for place in PLACES:
                    for grammar in (SMALLER, GREATEST):
                        with self.subTest(told=told, place=place):
                            self.refused(refusal, let_by, fault(grammar, place))

    def test_two_faults_of_unlike_rows(self):
        # The fault of the earlier row is put in last, and elsewhere, so that both are there.
        for first, (refusal, earlier) in enumerate(ROWS):
            for other, later in ROWS[first + 1:]:
                for told, fault in earlier.items():
                    for behind, second in later.items():
                        for place, elsewhere in ((0, 1), (1, 0), (0, -1), (-1, 0), (1, -1), (-1, 1)):
                            self.both(refusal, fault(second(SMALLER, elsewhere), place), (told, behind, place, elsewhere))

    def both(self, refusal, grammar, told):
        try:
            let_by(grammar)
        except refusal:
            return
        except ValueError as error:
            self.fail((told, error))
        self.fail(told)

    def test_branches_of_a_form_with_values_beyond_them(self):
        for k, branches in ((1, ()), (2, ("sb",)), (3, ("sb", "sb"))):
            form = ruled_form(GREAT_SIGNS, "f", "sa", branches)
            self.assertIs(type(let_by((GREAT_SIGNS, (form,)))), tuple)
            beyond = form[:3] + (form[3] + ((k, "p", num(1)),),)
            self.refused(NoName, let_by, (GREAT_SIGNS, (beyond,)))
            named = form[:3] + (replaced(form[3], 1, (0, "s", of(k, "s"))),)
            self.refused(NoName, let_by, (GREAT_SIGNS, (named,)))

    def test_values_of_another_sign(self):
        form = ("f", "tree", ("leaf",), ((0, "sum", of(1, "v")), (0, "all", text(""))))
        self.assertEqual(let_by((SIGNS, (form,))), (SIGNS, (form,)))
        for term in (of(0, "v"), of(1, "sum"), of(1, "deep"), of(2, "v"), call("add", of(1, "v"), of(0, "v"))):
            rules = ((0, "sum", term), (0, "all", text("")))
            self.refused(NoName, let_by, (SIGNS, (form[:3] + (rules,),)))
        self.refused(NoName, let_by, (SIGNS, (form[:3] + (form[3] + ((1, "deep", num(1)),),),)))

    def test_names_that_stand_twice_alone(self):
        # Nothing else is wrong here: no head or branch is left without its sign.
        for place in range(len(SIGNS)):
            for sign in SIGNS:
                self.refused(NoName, let_by, (SIGNS[:place] + (sign,) + SIGNS[place:], FORMS))
                self.refused(NoName, let_by, (SIGNS + ((sign[0], (), ()),), ()))
            for form in FORMS:
                self.refused(NoName, let_by, (SIGNS, FORMS[:place] + (form,) + FORMS[place:]))
        for downs, ups in (
            ((("x", "num"), ("x", "num")), ()),
            ((), (("x", "num"), ("x", "num"))),
            ((("x", "num"),), (("x", "num"),)),
            ((("y", "num"), ("x", "num")), (("z", "num"), ("x", "num"))),
        ):
            self.refused(NoName, let_by, ((BARE, ("s", downs, ups)), ()))
            self.refused(NoName, let_by, ((("s", downs, ups), BARE), (NONE,)))

    def test_one_more_than_each_bound(self):
        bare = tuple((name, (), ()) for name in "abcdefg")
        self.refused(TooGreat, let_by, ((), ()))
        self.refused(TooGreat, let_by, ((), (("f", "a", (), ()),)))
        self.refused(TooGreat, let_by, (bare, ()))
        self.refused(TooGreat, let_by, (bare[:1], tuple((name, "a", (), ()) for name in "abcdefghijk")))
        self.refused(TooGreat, let_by, (bare[:1], (("f", "a", ("a",) * 4, ()),)))
        three = (("x", "num"), ("y", "num"), ("z", "num"))
        self.refused(TooGreat, let_by, ((("a", three, ()),), ()))
        self.refused(TooGreat, let_by, ((("a", (), three),), ()))
        self.refused(TooGreat, let_by, (bare[:5] + (("g", (), three),), ()))
        for term in TOO_GREAT_TERMS.values():
            self.refused(TooGreat, let_by, ((LEAF,), (("f", "leaf", (), ((0, "v", term),)),)))

    def test_each_kind_for_another(self):
        for kind in ("num", "text", "row"):
            for other in ("num", "text", "row"):
                for sign, form in (
                    (("s", (), (("u", kind),)), ("f", "s", (), ((0, "u", constant(other, 1)),))),
                    (("s", (("d", kind),), ()), ("f", "s", ("s",), ((1, "d", constant(other, 1)),))),
                ):
                    if kind == other:
                        self.assertEqual(let_by(((sign,), (form,))), ((sign,), (form,)))
                    else:
                        self.refused(NoKind, let_by, ((sign,), (form,)))

    def test_many_rules_in_one_form(self):
        for place in (0, 4000, 8000):
            rules = replaced(((0, "v", MARK),) * 8001, place, (0, "w", MARK))
            with self.assertRaises(NoName):
                let_by(((LEAF,), (("f", "leaf", (), rules),)))
        with self.assertRaises(NoRule):
            let_by(((LEAF,), (("f", "leaf", (), ((0, "v", MARK),) * 8000),)))


if __name__ == "__main__":
    unittest.main()
