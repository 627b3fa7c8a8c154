"""Grammars: their signs and forms, the values of a form, and which grammars are let by."""

from leafsay.errors import NoKind, NoName, NoRule, TooGreat
from leafsay.terms import MOST_DEPTH, MOST_PARTS, depth, kind_of, named, parts

MOST_SIGNS = 6
MOST_FORMS = 10
MOST_DOWNS = 2
MOST_UPS = 2
MOST_BRANCHES = 3


def row_of(rows, name):
    for row in rows:
        if row[0] == name:
            return row
    raise NoName(f"nothing is called {name!r}")


def sign_row(grammar, name):
    return row_of(grammar[0], name)


def form_row(grammar, name):
    return row_of(grammar[1], name)


def signs_about(grammar, form):
    return [sign_row(grammar, name) for name in (form[1],) + form[2]]


def value_kinds(grammar, form):
    kinds = {}
    for k, sign in enumerate(signs_about(grammar, form)):
        for name, kind in sign[1] + sign[2]:
            kinds[(k, name)] = kind
    return kinds


def due_values(grammar, form):
    due = []
    for k, sign in enumerate(signs_about(grammar, form)):
        ruled = sign[2] if k == 0 else sign[1]
        due.extend([(k, name) for name, kind in ruled])
    return due


def rule_of(form, k, name):
    for rule in form[3]:
        if rule[0] == k and rule[1] == name:
            return rule[2]
    raise NoRule(f"no rule is there for {name!r} at {k}")


def check_sizes(grammar):
    signs = grammar[0]
    forms = grammar[1]
    if not 1 <= len(signs) <= MOST_SIGNS or len(forms) > MOST_FORMS:
        raise TooGreat("there are no signs, or too many signs or forms")
    for name, downs, ups in signs:
        if len(downs) > MOST_DOWNS or len(ups) > MOST_UPS:
            raise TooGreat(f"the sign {name!r} has too many downs or ups")
    for form in forms:
        check_form_size(form)


def check_form_size(form):
    form_name = form[0]
    if len(form[2]) > MOST_BRANCHES:
        raise TooGreat(f"the form {form_name!r} has too many branches")
    for k, name, term in form[3]:
        if parts(term) > MOST_PARTS or depth(term) > MOST_DEPTH:
            raise TooGreat(f"in the form {form_name!r} the term for {name!r} at {k} is too great")


def check_apart(rows):
    names = [row[0] for row in rows]
    if len(set(names)) != len(names):
        raise NoName(f"a name stands twice in {names!r}")


def check_names(grammar):
    check_apart(grammar[0])
    check_apart(grammar[1])
    for sign in grammar[0]:
        check_apart(sign[1] + sign[2])
    for form in grammar[1]:
        check_form_names(form, value_kinds(grammar, form))


def check_form_names(form, kinds):
    form_name = form[0]
    for k, name, term in form[3]:
        for pair in [(k, name)] + named(term):
            if pair not in kinds:
                raise NoName(f"the form {form_name!r} has no value {pair!r}")


def check_rules(grammar):
    for form in grammar[1]:
        form_name = form[0]
        ruled = [(k, name) for k, name, term in form[3]]
        # No value is due twice, so a second rule for one makes the lists unlike too.
        if sorted(ruled) != sorted(due_values(grammar, form)):
            raise NoRule(f"the form {form_name!r} does not rule just what is due")


def check_kinds(grammar):
    for form in grammar[1]:
        kinds = value_kinds(grammar, form)
        for k, name, term in form[3]:
            if kind_of(term, kinds) != kinds[(k, name)]:
                raise NoKind(f"the term for {name!r} at {k} is of another kind")


def let_by(grammar):
    # Each check goes through the whole grammar, so that the first one that fails tells the refusal.
    check_sizes(grammar)
    check_names(grammar)
    check_rules(grammar)
    check_kinds(grammar)
    return grammar
