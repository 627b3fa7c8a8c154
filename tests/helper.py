"""What several test files need: terms made in short, and a case that holds a refusal to its class."""

import unittest

from leafsay import errors

TOP = 10 ** 18 - 1
ROW = ("row",)
MARK = ("mark",)
DEEDS = ("add", "sub", "mul", "less", "pick", "glue", "show", "size", "put", "link", "at", "many")
REFUSALS = ("NoText", "TooGreat", "NoName", "NoRule", "NoKind", "NoTree", "NoPlace", "NoGiven", "NoWalk", "Ring")


def num(number):
    return ("num", number)


def text(signs):
    return ("text", signs)


def of(k, name):
    return ("of", k, name)


def call(deed, *terms):
    return ("call", deed, terms)


def chain(deed, levels, lowest):
    term = lowest
    for level in range(levels - 1):
        term = call(deed, term, num(1))
    return term


def balanced(terms):
    if len(terms) == 1:
        return terms[0]
    half = len(terms) // 2
    return call("add", balanced(terms[:half]), balanced(terms[half:]))


class Case(unittest.TestCase):
    def refused(self, refusal, function, *handed):
        with self.subTest(refusal=refusal.__name__, handed=handed):
            with self.assertRaises(errors.LeafError) as taken:
                function(*handed)
            self.assertIsInstance(taken.exception, ValueError)
            found = [name for name in REFUSALS if isinstance(taken.exception, getattr(errors, name))]
            self.assertEqual(found, [refusal.__name__])

    def made_of_tuples(self, thing):
        self.assertIn(type(thing), (tuple, str, int), thing)
        if type(thing) is tuple:
            for inner in thing:
                self.made_of_tuples(inner)
