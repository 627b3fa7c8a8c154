"""Words with others in brackets behind them: how both terms and trees are written."""

from leafsay.errors import NoText


def pieces(text, stops):
    # No word has a stop in it, so the stops alone part what is written.
    found = []
    start = 0
    for place, sign in enumerate(text):
        if sign in stops:
            found.append((text[start:place], sign))
            start = place + 1
    found.append((text[start:], ""))
    return found


# Keeps the open brackets in a list: what is written may be far deeper than functions may call one another.
class NestReader:
    def __init__(self):
        self.rows = []
        # For each open bracket the word ahead of it, and how many stand in it so far.
        self.open_words = []
        self.inner_counts = []
        # Whether a bracket was closed just now, behind which no word may stand.
        self.closed = False

    def add_row(self, word, count):
        self.rows.append((word, count, len(self.open_words) + 1))

    def begin(self, word):
        if self.closed:
            raise NoText("a bracket begins behind a closed one")
        self.open_words.append(word)
        self.inner_counts.append(0)

    def end_word(self, word):
        if not self.closed:
            self.add_row(word, 0)
        elif word != "":
            raise NoText(f"{word!r} stands behind a closed bracket")

    def count_in(self):
        if not self.open_words:
            raise NoText("what stands in a bracket alone stands outside of all")
        self.inner_counts[-1] += 1
        self.closed = False

    def close_bracket(self):
        word = self.open_words.pop()
        self.add_row(word, self.inner_counts.pop())
        self.closed = True

    def all_rows(self):
        if self.open_words:
            raise NoText("a bracket is not closed")
        return self.rows


def nest_rows(text, between):
    # Rows (word, how many stand in its brackets, how deep it stands), each behind those that stand in it.
    reader = NestReader()
    for word, stop in pieces(text, "(" + between + ")"):
        if stop == "(":
            reader.begin(word)
        else:
            reader.end_word(word)
            if stop != "":
                reader.count_in()
            if stop == ")":
                reader.close_bracket()
    return reader.all_rows()


def deepest(rows):
    return max([level for word, count, level in rows])


def taken_off(ready, count):
    taken = []
    while len(taken) < count:
        taken.append(ready.pop())
    return tuple(reversed(taken))
