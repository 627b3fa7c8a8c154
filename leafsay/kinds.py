"""The three kinds of values, and the twelve deeds that make a value of others."""

from leafsay.errors import NoKind

# 10 ** 18, written out, as a file's top holds plain values alone.
LIMIT = 1000000000000000000
MOST_SIGNS = 40
MOST_NUMS = 12
KINDS = ("num", "text", "row")
SIGNS = "abcdefghijklmnopqrstuvwxyz0123456789"

# `pick` is in neither of these two: its kinds hang on one another.
NEEDS = {
    "add": ("num", "num"),
    "sub": ("num", "num"),
    "mul": ("num", "num"),
    "less": ("num", "num"),
    "glue": ("text", "text"),
    "show": ("num",),
    "size": ("text",),
    "put": ("row", "num"),
    "link": ("row", "row"),
    "at": ("row", "num"),
    "many": ("row",),
}
MAKES = {
    "add": "num",
    "sub": "num",
    "mul": "num",
    "less": "num",
    "glue": "text",
    "show": "text",
    "size": "num",
    "put": "row",
    "link": "row",
    "at": "num",
    "many": "num",
}


def is_num(thing):
    # For Python True and False are whole numbers too, here they are none.
    if isinstance(thing, bool) or not isinstance(thing, int):
        return False
    return 0 <= thing < LIMIT


def is_text(thing):
    if not isinstance(thing, str) or len(thing) > MOST_SIGNS:
        return False
    return all([sign in SIGNS for sign in thing])


def is_row(thing):
    if not isinstance(thing, tuple) or len(thing) > MOST_NUMS:
        return False
    return all([is_num(one) for one in thing])


def is_kind(kind, thing):
    if kind == "num":
        return is_num(thing)
    if kind == "text":
        return is_text(thing)
    return kind == "row" and is_row(thing)


def is_deed(word):
    return word == "pick" or word in NEEDS


def picked_kind(kinds):
    if len(kinds) == 3 and kinds[0] == "num" and kinds[1] == kinds[2]:
        return kinds[1]
    raise NoKind(f"pick makes nothing of {kinds!r}")


def made_kind(deed, kinds):
    if deed == "pick":
        return picked_kind(kinds)
    if deed not in NEEDS:
        raise NoKind(f"there is no deed {deed!r}")
    if tuple(kinds) != NEEDS[deed]:
        raise NoKind(f"{deed} makes nothing of {kinds!r}")
    return MAKES[deed]


def num_at(row, place):
    if 0 <= place < len(row):
        return row[place]
    return 0


def done(deed, some):
    first = some[0]
    if deed == "show":
        return str(first)
    if deed == "size" or deed == "many":
        return len(first)
    second = some[1]
    if deed == "add":
        return (first + second) % LIMIT
    if deed == "sub":
        return (first - second) % LIMIT
    if deed == "mul":
        return first * second % LIMIT
    if deed == "less":
        return 1 if first < second else 0
    if deed == "glue":
        return (first + second)[:MOST_SIGNS]
    if deed == "put":
        return (first + (second,))[:MOST_NUMS]
    if deed == "link":
        return (first + second)[:MOST_NUMS]
    if deed == "at":
        return num_at(first, second)
    return second if first != 0 else some[2]
