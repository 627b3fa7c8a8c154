"""Terms as they are written, and read again."""

from leafsay.errors import NoText, TooGreat
from leafsay.kinds import is_deed, is_kind
from leafsay.names import is_number, read_value, show_value
from leafsay.nests import deepest, nest_rows, taken_off
from leafsay.terms import MOST_DEPTH, MOST_PARTS

MOST_TERMS = 3
QUOTE = '"'


def show_term(term):
    sort = term[0]
    if sort == "num":
        return str(term[1])
    if sort == "text":
        return QUOTE + term[1] + QUOTE
    if sort == "row":
        return "[]"
    if sort == "mark":
        return "mark"
    if sort == "of":
        return show_value(term[1], term[2])
    return term[1] + "(" + ",".join([show_term(inner) for inner in term[2]]) + ")"


def is_quoted(word):
    if len(word) < 2 or word[0] != QUOTE or word[-1] != QUOTE:
        return False
    return is_kind("text", word[1:-1])


def read_leaf(word):
    if word == "mark":
        return ("mark",)
    if word == "[]":
        return ("row",)
    if is_number(word):
        return ("num", int(word))
    if is_quoted(word):
        return ("text", word[1:-1])
    pair = read_value(word)
    return ("of", pair[0], pair[1])


def made_call(deed, terms):
    if not is_deed(deed):
        raise NoText(f"there is no deed {deed!r}")
    if len(terms) > MOST_TERMS:
        raise NoText(f"a call has more than {MOST_TERMS} terms")
    return ("call", deed, terms)


def read_term(text):
    rows = nest_rows(text, ",")
    ready = []
    for word, count, level in rows:
        inner = taken_off(ready, count)
        ready.append(made_call(word, inner) if inner else read_leaf(word))
    # Behind all else: only what is a term is refused for being too great.
    if len(rows) > MOST_PARTS or deepest(rows) > MOST_DEPTH:
        raise TooGreat(f"a term has more than {MOST_PARTS} parts or is deeper than {MOST_DEPTH}")
    return ready[0]
