"""Grammars as they are written, and read again."""

from leafsay.errors import NoText
from leafsay.kinds import KINDS
from leafsay.names import is_name, read_value, show_value
from leafsay.termtexts import read_term, show_term


def show_carried(word, values):
    return [f"{word} {name}:{kind}" for name, kind in values]


def show_sign(sign):
    return " ".join(["sign", sign[0]] + show_carried("down", sign[1]) + show_carried("up", sign[2]))


def show_form(form):
    return " ".join(["form", form[0], form[1]] + list(form[2]))


def show_rule(rule):
    return show_value(rule[0], rule[1]) + " = " + show_term(rule[2])


def show_grammar(grammar):
    lines = [show_sign(sign) for sign in grammar[0]]
    for form in grammar[1]:
        lines.append(show_form(form))
        lines.extend([show_rule(rule) for rule in form[3]])
    return "\n".join(lines)


def read_named(word):
    if not is_name(word):
        raise NoText(f"{word!r} is no name")
    return word


def read_carried(word):
    halves = word.partition(":")
    if halves[2] not in KINDS:
        raise NoText(f"{word!r} ends with no kind")
    return (read_named(halves[0]), halves[2])


def read_sign(words):
    # `sign` and the name are two words, and each down or up behind them is two more.
    if len(words) % 2 != 0:
        raise NoText(f"{words!r} is no line of a sign")
    downs = []
    ups = []
    for place in range(2, len(words), 2):
        if words[place] == "up":
            ups.append(read_carried(words[place + 1]))
        elif words[place] == "down" and not ups:
            downs.append(read_carried(words[place + 1]))
        else:
            raise NoText(f"neither a down nor an up is told in {words!r}")
    return (read_named(words[1]), tuple(downs), tuple(ups))


def read_form(words):
    if len(words) < 3:
        raise NoText(f"{words!r} is no line of a form")
    names = [read_named(word) for word in words[1:]]
    return (names[0], names[1], tuple(names[2:]))


def read_rule(words):
    if len(words) != 3 or words[1] != "=":
        raise NoText(f"{words!r} is no line of a rule")
    return (read_value(words[0]), words[2])


def read_forms(lines):
    forms = []
    for words in lines:
        if words[0] == "form":
            forms.append((read_form(words), []))
        elif forms:
            forms[-1][1].append(read_rule(words))
        else:
            raise NoText(f"{words!r} stands ahead of all forms")
    return forms


def with_terms(rules):
    return tuple([(pair[0], pair[1], read_term(written)) for pair, written in rules])


def read_grammar(text):
    lines = [line.split(" ") for line in text.split("\n")]
    signs = []
    while len(signs) < len(lines) and lines[len(signs)][0] == "sign":
        signs.append(read_sign(lines[len(signs)]))
    # Terms are read last: one that is too great is refused as such only among lines that are in form.
    forms = read_forms(lines[len(signs):])
    return (tuple(signs), tuple([head + (with_terms(rules),) for head, rules in forms]))
