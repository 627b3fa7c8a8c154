"""Terms: how great they are, what they name, of what kind they are and what they are worth."""

from leafsay.errors import NoKind
from leafsay.kinds import done, made_kind

# How great a term of a grammar, or one that is read, may be.
MOST_PARTS = 30
MOST_DEPTH = 6


def inner_terms(term):
    if term[0] == "call":
        return term[2]
    return ()


def parts(term):
    return 1 + sum([parts(inner) for inner in inner_terms(term)])


def depth(term):
    return 1 + max([depth(inner) for inner in inner_terms(term)], default=0)


def named(term):
    if term[0] == "of":
        return [(term[1], term[2])]
    found = []
    for inner in inner_terms(term):
        for pair in named(inner):
            if pair not in found:
                found.append(pair)
    return found


def told_kind(pair, kinds):
    if pair not in kinds:
        raise NoKind(f"no kind is told of {pair!r}")
    return kinds[pair]


def kind_of(term, kinds):
    sort = term[0]
    if sort == "call":
        return made_kind(term[1], [kind_of(inner, kinds) for inner in term[2]])
    if sort == "of":
        return told_kind((term[1], term[2]), kinds)
    if sort == "mark":
        return "num"
    # What is left bears its kind's word: a number, a text, the row of none.
    return sort


def worth(term, known, mark):
    sort = term[0]
    if sort == "call":
        return done(term[1], [worth(inner, known, mark) for inner in term[2]])
    if sort == "of":
        return known[(term[1], term[2])]
    if sort == "mark":
        return mark
    if sort == "row":
        return ()
    return term[1]
