"""Terms as they are written, and read again."""

from leafsay.errors import NoText, TooGreat
from leafsay.kinds import is_deed, is_kind
from leafsay.names import is_number, read_value, show_value
from leafsay.terms import MOST_DEPTH, MOST_PARTS

MOST_TERMS = 3
STOPS = "(,)"
QUOTE = '"'


def show_term(term):
    sort = term[0]
    if sort == "num":
        return str(term[1])
    if sort == "text":
        return QUOTE + term[1] + QUOTE
    if sort == "row":
        return "[]"
    if sort == "mark":
        return "mark"
    if sort == "of":
        return show_value(term[1], term[2])
    return term[1] + "(" + ",".join([show_term(inner) for inner in term[2]]) + ")"


def is_quoted(word):
    if len(word) < 2 or word[0] != QUOTE or word[-1] != QUOTE:
        return False
    return is_kind("text", word[1:-1])


def read_leaf(word):
    if word == "mark":
        return ("mark",)
    if word == "[]":
        return ("row",)
    if is_number(word):
        return ("num", int(word))
    if is_quoted(word):
        return ("text", word[1:-1])
    pair = read_value(word)
    return ("of", pair[0], pair[1])


def pieces(text):
    # No leaf and no deed has a stop in it, so the stops alone part what is written.
    found = []
    start = 0
    for place, sign in enumerate(text):
        if sign in STOPS:
            found.append((text[start:place], sign))
            start = place + 1
    found.append((text[start:], ""))
    return found


# Keeps the open calls in a list: what is written may be far deeper than functions may call one another.
class TermReader:
    def __init__(self):
        self.open_calls = []
        # The term that was read last, till its place is known.
        self.ready = None
        self.part_count = 0
        self.deepest = 0

    def begin_call(self, deed):
        if self.ready is not None or not is_deed(deed):
            raise NoText(f"no call begins with {deed!r} here")
        self.open_calls.append((deed, []))
        self.part_count += 1

    def end_term(self, word):
        if self.ready is None:
            self.ready = read_leaf(word)
            self.part_count += 1
            self.deepest = max(self.deepest, len(self.open_calls) + 1)
        elif word != "":
            raise NoText(f"{word!r} stands behind a closed call")

    def put_into_call(self):
        if not self.open_calls:
            raise NoText("a comma or a closing bracket stands in no call")
        self.open_calls[-1][1].append(self.ready)
        self.ready = None

    def close_call(self):
        call = self.open_calls.pop()
        if len(call[1]) > MOST_TERMS:
            raise NoText(f"a call has more than {MOST_TERMS} terms")
        self.ready = ("call", call[0], tuple(call[1]))

    def whole_term(self):
        if self.open_calls:
            raise NoText("a call is not closed")
        if self.part_count > MOST_PARTS or self.deepest > MOST_DEPTH:
            raise TooGreat(f"a term has more than {MOST_PARTS} parts or is deeper than {MOST_DEPTH}")
        return self.ready


def read_term(text):
    reader = TermReader()
    for word, stop in pieces(text):
        if stop == "(":
            reader.begin_call(word)
        else:
            reader.end_term(word)
            if stop != "":
                reader.put_into_call()
            if stop == ")":
                reader.close_call()
    return reader.whole_term()
