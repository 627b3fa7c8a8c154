"""What several test files need: terms and trees made in short, and a case that holds a refusal to its class."""

import unittest

from leafsay import errors

TOP = 10 ** 18 - 1
ROW = ("row",)
MARK = ("mark",)
DEEDS = ("add", "sub", "mul", "less", "pick", "glue", "show", "size", "put", "link", "at", "many")
REFUSALS = ("NoText", "TooGreat", "NoName", "NoRule", "NoKind", "NoTree", "NoPlace", "NoGiven", "NoWalk", "Ring")


def num(number):
    return ("num", number)


def text(signs):
    return ("text", signs)


def of(k, name):
    return ("of", k, name)


def call(deed, *terms):
    return ("call", deed, terms)


def chain(deed, levels, lowest):
    term = lowest
    for level in range(levels - 1):
        term = call(deed, term, num(1))
    return term


def balanced(terms):
    if len(terms) == 1:
        return terms[0]
    half = len(terms) // 2
    return call("add", balanced(terms[:half]), balanced(terms[half:]))


def node(form, *branches, mark=0):
    return (form, mark, branches)


def high(form, levels):
    tree = node(form)
    for level in range(levels - 1):
        tree = node(form, tree)
    return tree


def some_tree(source, size, forms, marks=(0,)):
    """A tree of just so many nodes, of any shape."""
    branches, left = [], size - 1
    while left:
        part = source.randint(1, left)
        branches.append(some_tree(source, part, forms, marks))
        left -= part
    return node(source.choice(forms), *branches, mark=source.choice(marks))


def hanging(graph):
    """For each node those on which it hangs, found by going on till nothing more comes of it."""
    found = {node: set(graph[node]) for node in graph}
    growing = True
    while growing:
        growing = False
        for node in graph:
            more = set().union(*[found[lower] for lower in found[node]]) - found[node]
            if more:
                found[node] |= more
                growing = True
    return found


def most_open(written):
    """How many brackets are open at once, at the place where there are most."""
    nested, most = 0, 0
    for sign in written:
        nested += {"(": 1, ")": -1}.get(sign, 0)
        most = max(most, nested)
    return most


class Case(unittest.TestCase):
    def refused(self, refusal, function, *handed):
        with self.subTest(refusal=refusal.__name__, handed=handed):
            with self.assertRaises(errors.LeafError) as taken:
                function(*handed)
            self.assertIsInstance(taken.exception, ValueError)
            found = [name for name in REFUSALS if isinstance(taken.exception, getattr(errors, name))]
            self.assertEqual(found, [refusal.__name__])

    # For what is handed in so great that nobody wants to see it in a report.
    def refused_shortly(self, refusal, function, *handed):
        with self.assertRaises(errors.LeafError) as taken:
            function(*handed)
        self.assertIs(type(taken.exception), refusal)

    def made_of_tuples(self, thing):
        self.assertIn(type(thing), (tuple, str, int), thing)
        if type(thing) is tuple:
            for inner in thing:
                self.made_of_tuples(inner)

    def ring_held(self, graph, ring):
        self.assertIs(type(ring), list)
        self.assertTrue(ring)
        self.assertEqual(len(set(ring)), len(ring))
        for place, node in enumerate(ring):
            self.assertIn(ring[(place + 1) % len(ring)], graph[node])


class WrittenCase(Case):
    # A class under this one tells how its things are written and read: show, read_text.
    def read(self, thing, written):
        with self.subTest(written):
            self.assertEqual(self.show(thing), written)
            answer = self.read_text(written)
            self.assertEqual(answer, thing)
            self.made_of_tuples(answer)

    def there_and_back(self, thing):
        self.read(thing, self.show(thing))
