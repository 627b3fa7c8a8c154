"""What several test files need: things made in short or by chance, what is to come of them, cases that hold answers."""

import functools
import itertools
import unittest

from leafsay import errors
from leafsay.grammars import form_row, let_by, sign_row
from leafsay.grammartexts import read_grammar
from leafsay.terms import worth
from leafsay.trees import branch_at, paths
from leafsay.treetexts import read_tree

TOP = 10 ** 18 - 1
ROW = ("row",)
MARK = ("mark",)
DEEDS = ("add", "sub", "mul", "less", "pick", "glue", "show", "size", "put", "link", "at", "many")
REFUSALS = ("NoText", "TooGreat", "NoName", "NoRule", "NoKind", "NoTree", "NoPlace", "NoGiven", "NoWalk", "Ring")
# Numbers of which no path has one, of any size.
VERY_GREAT = (10 ** 18, 2 ** 64, 10 ** 100, 10 ** 5000, -1, -2, -10 ** 18, -10 ** 5000)
JOINING = {"num": ("add", "sub", "mul", "less", "pick"), "text": ("glue", "pick"), "row": ("link", "pick")}


def num(number):
    return ("num", number)


def text(signs):
    return ("text", signs)


def of(k, name):
    return ("of", k, name)


def call(deed, *terms):
    return ("call", deed, terms)


def chain(deed, levels, lowest):
    term = lowest
    for level in range(levels - 1):
        term = call(deed, term, num(1))
    return term


def balanced(terms):
    if len(terms) == 1:
        return terms[0]
    half = len(terms) // 2
    return call("add", balanced(terms[:half]), balanced(terms[half:]))


def node(form, *branches, mark=0):
    return (form, mark, branches)


def high(form, levels):
    tree = node(form)
    for level in range(levels - 1):
        tree = node(form, tree)
    return tree


def some_tree(source, size, forms, marks=(0,)):
    """A tree of just so many nodes, of any shape."""
    branches, left = [], size - 1
    while left:
        part = source.randint(1, left)
        branches.append(some_tree(source, part, forms, marks))
        left -= part
    return node(source.choice(forms), *branches, mark=source.choice(marks))


def hanging(graph):
    """For each node those on which it hangs, found by going on till nothing more comes of it."""
    found = {node: set(graph[node]) for node in graph}
    growing = True
    while growing:
        growing = False
        for node in graph:
            more = set().union(*[found[lower] for lower in found[node]]) - found[node]
            if more:
                found[node] |= more
                growing = True
    return found


def most_open(written):
    """How many brackets are open at once, at the place where there are most."""
    nested, most = 0, 0
    for sign in written:
        nested += {"(": 1, ")": -1}.get(sign, 0)
        most = max(most, nested)
    return most


def grammar_of(*lines):
    return let_by(read_grammar("\n".join(lines)))


# Names that stand in another order than that of their letters; no, one and several branches.
WIDE = grammar_of(
    "sign s down q:num down b:num up z:num up a:num",
    "sign one down d:text up u:text",
    "sign bare",
    "sign only down d:num",
    "form all s",
    "0.a = add(0.b,0.q)",
    "0.z = add(0.b,0.q)",
    "form none s",
    "0.z = mark",
    "0.a = 7",
    "form cross s",
    "0.z = 0.b",
    "0.a = 0.q",
    "form through s s",
    "1.b = 0.b",
    "1.q = 0.q",
    "0.z = 1.z",
    "0.a = 1.a",
    "form turn s s one",
    "0.z = size(2.u)",
    "0.a = mul(1.z,0.q)",
    "1.q = 3",
    "1.b = 0.q",
    '2.d = glue(show(0.b),"x")',
    "form back s s",
    "1.q = 1.z",
    "1.b = 1.a",
    "0.a = 1.a",
    "0.z = 1.z",
    "form side one s s bare",
    "0.u = show(1.a)",
    "1.q = 2.a",
    "1.b = 2.z",
    "2.q = size(0.d)",
    "2.b = 0",
    "form up one one",
    "0.u = 1.u",
    "1.d = 0.u",
    "form told only s",
    "1.q = 0.d",
    "1.b = 1.z",
    "form empty bare",
)
CLEAR = (WIDE[0], tuple(form for form in WIDE[1] if form[0] not in ("back", "up", "told")))
LOOP = grammar_of("sign s up u:num", "form f s", "0.u = 0.u")
LOOP_OF_BOTH = grammar_of("sign s up u:num up v:num", "form f s", "0.u = add(1,0.v)", "0.v = 0.u")
# Each of the two leaves is harmless in the form `tie`; a leaf that has the reaches of both is not.
KNOT = (
    "sign r up w:num",
    "sign s down a:num down b:num up x:num up y:num",
    "form tie r s",
    "1.a = 1.y",
    "1.b = 1.x",
    "0.w = add(1.x,1.y)",
    "form l s",
    "0.x = 0.a",
    "0.y = 0",
    "form m s",
    "0.y = 0.b",
    "0.x = 0",
)
UNKNOTTED = grammar_of(*KNOT)
KNOTTED = grammar_of(*KNOT, "form both s", "0.x = 0.a", "0.y = 0.b")
# A ring comes only of a leaf, a form above it that changes its values about, and one at the top.
FAR = grammar_of(
    "sign r",
    "sign s down a:num down b:num up x:num up y:num",
    "form top r s",
    "1.a = 0",
    "1.b = 1.y",
    "form turn s s",
    "0.x = 1.y",
    "0.y = 1.x",
    "1.a = 0.b",
    "1.b = 0.a",
    "form leaf s",
    "0.x = 0.a",
    "0.y = 0",
)
# Values of all three kinds, and marks in the rules for ups and for downs.
DESK = grammar_of(
    "sign doc down pre:text down base:num up out:text up all:row",
    "sign item down deep:num up line:text up nums:row",
    "form page doc item",
    "0.out = glue(0.pre,1.line)",
    "0.all = put(1.nums,mark)",
    "1.deep = add(0.base,mark)",
    "form pair item item item",
    "0.line = glue(1.line,2.line)",
    "0.nums = link(1.nums,2.nums)",
    "1.deep = add(0.deep,mark)",
    "2.deep = mul(0.deep,2)",
    "form lit item",
    "0.line = show(add(0.deep,mark))",
    "0.nums = put(put([],mark),0.deep)",
    "form nil item",
    '0.line = ""',
    "0.nums = []",
)
DESK_TREE = read_tree("page:100(pair:10(lit:1 pair(nil lit:5)))")
DESK_GIVEN = {"pre": "x", "base": 7}
DESK_VALUES = {
    ((), "pre"): "x",
    ((), "base"): 7,
    ((), "out"): "x118433",
    ((), "all"): (1, 117, 5, 428, 100),
    ((1,), "deep"): 107,
    ((1,), "line"): "118433",
    ((1,), "nums"): (1, 117, 5, 428),
    ((1, 1), "deep"): 117,
    ((1, 1), "line"): "118",
    ((1, 1), "nums"): (1, 117),
    ((1, 2), "deep"): 214,
    ((1, 2), "line"): "433",
    ((1, 2), "nums"): (5, 428),
    ((1, 2, 1), "deep"): 214,
    ((1, 2, 1), "line"): "",
    ((1, 2, 1), "nums"): (),
    ((1, 2, 2), "deep"): 428,
    ((1, 2, 2), "line"): "433",
    ((1, 2, 2), "nums"): (5, 428),
}
# Downs of all three kinds, and trees with a ring (`bad`) and without one (`good`) of each sign.
GIVEN = grammar_of(
    "sign none up u:num",
    "sign one down r:row up u:num",
    "sign two down n:num down t:text up u:num",
    "sign both down r:row down q:row up u:num",
    "form badnone none", "0.u = 0.u",
    "form badone one", "0.u = add(many(0.r),0.u)",
    "form badtwo two", "0.u = add(0.u,0.n)",
    "form badboth both", "0.u = pick(many(0.q),1,0.u)",
    "form goodnone none", "0.u = mark",
    "form goodone one", "0.u = many(0.r)",
    "form goodtwo two", "0.u = add(0.n,size(0.t))",
    "form goodboth both", "0.u = at(0.q,many(0.r))",
)
RIGHT = {
    "none": ({},),
    "one": ({"r": ()}, {"r": (0,)}, {"r": (TOP,) * 12}),
    "two": ({"n": 0, "t": ""}, {"t": "z" * 40, "n": TOP}, {"n": 5, "t": "a0"}),
    "both": ({"r": (), "q": ()}, {"q": (3, 4), "r": (1,)}),
}


class Sullen:
    """A thing that lets nobody look at it."""

    def sulk(self, *handed):
        raise RuntimeError("asked")

    __eq__ = __hash__ = __bool__ = __len__ = __iter__ = __lt__ = __gt__ = __le__ = __ge__ = __repr__ = __str__ = sulk


# What is no value of any kind, and what is none of this kind.
NO_VALUES = (
    None, True, False, [], [1], {}, {"a": 1}, {1}, 1.0, 0.5, b"a", object(), range(3), len, int, Sullen(), (Sullen(),),
    -1, -10 ** 5000, 10 ** 18, 10 ** 5000, "A", "a b", "a-", "\u00e9", "\u0661", "a\n", "a" * 41, "a" * 10000,
    (0,) * 13, (0,) * 10000, (True,), (0, None), (-1,), (10 ** 18,), ((),), ("1",), ([],),
)
OTHER_KINDS = {"num": ("", "1", (), (1,)), "text": (0, 1, (), ("a",)), "row": (0, 1, "", "a")}


def wrong_givens(downs, right):
    """Dicts that are to be refused, where the right one is told: other names, and things of other kinds."""
    for name, kind in downs:
        fewer = {key: right[key] for key in right if key != name}
        yield fewer
        for other in (name + "x", name[:-1], name.upper(), "u", "deep", " " + name):
            if other not in right:
                yield {**fewer, other: right[name]}
                yield {**right, other: right[name]}
        for thing in NO_VALUES + OTHER_KINDS[kind]:
            yield {**right, name: thing}
    yield {**right, "u": 0}
    yield {**right, "": ""}
    yield {**right, "another": None}


def threaded():
    """All spots of a tree below `top` hang on one another in one chain; below `knot` all but the root's in one ring."""
    lines = ["sign r down d:num up u:num up v:num", "sign s down a:num down b:num up x:num up y:num"]
    lines += ["form top r s", "1.a = 0.d", "1.b = 1.x", "0.u = 1.y", "0.v = 0.u"]
    lines += ["form knot r s", "1.a = 1.y", "1.b = 1.x", "0.u = 0.d", "0.v = 1.y"]
    lines += ["form leaf s", "0.x = add(0.a,mark)", "0.y = add(mul(0.b,3),mark)"]
    for name, branches in (("one", 1), ("three", 3)):
        lines += [f"form {name} s" + " s" * branches]
        for down, up in ("ax", "by"):
            lines += [f"1.{down} = 0.{down}", f"0.{up} = {branches}.{up}"]
            lines += [f"{k}.{down} = {k - 1}.{up}" for k in range(2, branches + 1)]
    return grammar_of(*lines)


def thread_of(root):
    """A tree of just sixty nodes, just 20 deep."""
    tree = node("leaf", mark=2)
    for level in range(16):
        branches = [node("leaf"), node("leaf", mark=1)]
        branches.insert(level % 3, tree)
        tree = node("three", *branches)
    broad = node("three", node("three", node("leaf"), node("leaf"), node("leaf")), node("leaf"), node("leaf"))
    return node(root, node("one", node("three", broad, tree, node("leaf", mark=7))))


THREADED = threaded()


def named_in(term):
    if term[0] == "of":
        return {term[1:]}
    return set().union(*[named_in(inner) for inner in term[2]]) if term[0] == "call" else set()


def carried(grammar, sign):
    name, downs, ups = sign_row(grammar, sign)
    return [down for down, kind in downs], [up for up, kind in ups]


def tree_graph(grammar, tree):
    """Each spot with those that it needs: an up by its node's form, a down by the form right above."""
    graph = {}
    for path in paths(tree):
        form = form_row(grammar, branch_at(tree, path)[0])
        for name in itertools.chain(*carried(grammar, form[1])):
            graph.setdefault((path, name), set())
        for k, name, term in form[3]:
            graph[self_or_branch(path, k), name] = {(self_or_branch(path, j), other) for j, other in named_in(term)}
    return graph


def self_or_branch(path, k):
    return path if k == 0 else path + (k,)


def has_ring(graph):
    return any(one in found for one, found in hanging(graph).items())


def told_values(grammar, tree, given):
    """The values, by going through all rules till nothing more comes of it; there are none of what hangs on a ring."""
    values = {((), name): thing for name, thing in given.items()}
    growing = True
    while growing:
        growing = False
        for path in paths(tree):
            name, mark, branches = branch_at(tree, path)
            for k, told, term in form_row(grammar, name)[3]:
                spot = (self_or_branch(path, k), told)
                wanted = {(j, other): (self_or_branch(path, j), other) for j, other in named_in(term)}
                if spot not in values and all(lower in values for lower in wanted.values()):
                    values[spot] = worth(term, {pair: values[lower] for pair, lower in wanted.items()}, mark)
                    growing = True
    return values


def turned(term, kind, wanted):
    """What makes a value of the wanted kind of a term of some kind."""
    if kind == wanted:
        return term
    number = {"num": term, "text": call("size", term), "row": call("at", term, MARK)}[kind]
    return {"num": number, "text": call("show", number), "row": call("put", ROW, number)}[wanted]


def some_constant(source, kind):
    return source.choice({
        "num": (num(0), num(1), num(2), MARK),
        "text": (text(""), text("a"), text("b7"), call("show", MARK)),
        "row": (ROW, call("put", ROW, MARK)),
    }[kind])


def some_term(source, kind, values):
    term = some_constant(source, kind)
    for value in source.sample(list(values), min(len(values), source.choice((0, 1, 1, 1, 2, 2)))):
        deed = source.choice(JOINING[kind])
        if source.random() < 0.5:
            term = turned(of(*value), values[value], kind)
        elif deed == "pick":
            term = call("pick", turned(of(*value), values[value], "num"), term, some_constant(source, kind))
        else:
            term = call(deed, turned(of(*value), values[value], kind), term)
    return term


def some_grammar(source, kinds=("num",)):
    """Rings are to be neither rare nor the rule: a branch's downs name its own ups only now and then."""
    signs = []
    for name in "rst"[:source.randint(1, 3)]:
        downs = tuple((down, source.choice(kinds)) for down in "ba"[:source.randint(0, 2)])
        signs.append((name, downs, tuple((up, source.choice(kinds)) for up in "yx"[:source.randint(0, 2)])))
    grammar = (tuple(signs), ())
    names = [sign[0] for sign in signs]
    forms = []
    for number in range(source.randint(1, 7)):
        branches = tuple(source.choice(names) for k in range(source.choice((0, 0, 1, 1, 2, 3)) if number else 0))
        forms.append(some_form(source, grammar, ("abcdefg"[number], source.choice(names), branches)))
    return let_by((grammar[0], tuple(forms)))


def some_form(source, grammar, form):
    odd = source.random() < 0.5
    about = [sign_row(grammar, name) for name in form[1:2] + form[2]]
    rules = []
    for k, sign in enumerate(about):
        for name, kind in sign[1] if k else sign[2]:
            values = {(0, down): told for down, told in about[0][1]}
            for j, other in enumerate(about[1:], start=1):
                values.update({(j, up): told for up, told in other[2] if k == 0 or j < k or odd})
            if odd:
                values.update({(0, up): told for up, told in about[0][2] if (k, name) != (0, up)})
            rules.append((k, name, some_term(source, kind, values)))
    return form + (tuple(source.sample(rules, len(rules))),)


def small_trees(grammar, most):
    """Trees by their sign, of up to so many nodes; not all of them, where there are very many."""
    by_size = {}
    for size in range(1, most + 1):
        by_size[size] = []
        for form in grammar[1]:
            for sizes in itertools.product(range(1, size), repeat=len(form[2])):
                if sum(sizes) == size - 1:
                    options = [[tree for sign, tree in by_size[part] if sign == wanted]
                               for part, wanted in zip(sizes, form[2])]
                    found = itertools.islice(itertools.product(*options), 40)
                    by_size[size] += [(form[1], node(form[0], *branches)) for branches in found]
    return [pair for size in by_size for pair in by_size[size]]


@functools.cache
def least_heights(grammar):
    """For each sign that has trees how deep the least deep ones are."""
    heights = {}
    for turn in grammar[0]:
        for name, head, branches, rules in grammar[1]:
            if all(branch in heights for branch in branches):
                height = 1 + max((heights[branch] for branch in branches), default=0)
                heights[head] = min(height, heights.get(head, height))
    return heights


def fitting_tree(source, grammar, sign, levels, left):
    """A tree of the sign, of any shape, that ends as soon as it may below so many levels, or when left[0] are made."""
    left[0] -= 1
    heights = least_heights(grammar)
    forms = []
    for form in grammar[1]:
        height = 1 + max((heights.get(branch, 99) for branch in form[2]), default=0)
        if form[1] == sign and height <= max(levels if left[0] > 0 else 0, heights[sign]):
            forms.append(form)
    branching = [form for form in forms if form[2]]
    form = source.choice(branching if branching and source.random() < 0.8 else forms)
    branches = [fitting_tree(source, grammar, branch, levels - 1, left) for branch in form[2]]
    return node(form[0], *branches, mark=source.choice((0, 1, 2, 5, TOP)))


def fitting_trees(source, grammar, count):
    """Trees of any sign, some of them great, of at most sixty nodes and at most 20 deep."""
    signs = list(least_heights(grammar))
    found = []
    for turn in range(count if signs else 0):
        sign, levels, most = source.choice(signs), source.randint(1, 17), source.choice((5, 20, 50))
        tree = fitting_tree(source, grammar, sign, levels, [most])
        while len(paths(tree)) > 60:
            most //= 2
            tree = fitting_tree(source, grammar, sign, levels, [most])
        found.append(tree)
    return found


def some_value(source, kind):
    return source.choice({
        "num": (0, 1, 2, 7, 41, TOP),
        "text": ("", "a", "x9", "abc", "z" * 40),
        "row": ((), (0,), (5, 3), (TOP, 0, 1), tuple(range(12))),
    }[kind])


def some_given(source, grammar, tree):
    downs = sign_row(grammar, form_row(grammar, tree[0])[1])[1]
    return {name: some_value(source, kind) for name, kind in source.sample(downs, len(downs))}


class Case(unittest.TestCase):
    def refused(self, refusal, function, *handed):
        with self.subTest(refusal=refusal.__name__, handed=handed):
            with self.assertRaises(errors.LeafError) as taken:
                function(*handed)
            self.assertIsInstance(taken.exception, ValueError)
            found = [name for name in REFUSALS if isinstance(taken.exception, getattr(errors, name))]
            self.assertEqual(found, [refusal.__name__])

    # For what is handed in so great that nobody wants to see it in a report.
    def refused_shortly(self, refusal, function, *handed):
        with self.assertRaises(errors.LeafError) as taken:
            function(*handed)
        self.assertIs(type(taken.exception), refusal)

    def made_of_tuples(self, thing):
        self.assertIn(type(thing), (tuple, str, int), thing)
        if type(thing) is tuple:
            for inner in thing:
                self.made_of_tuples(inner)

    def order_held(self, graph, order):
        self.assertIs(type(order), list)
        self.assertEqual(len(order), len(graph))
        self.assertEqual(set(order), set(graph))
        place = {node: number for number, node in enumerate(order)}
        for node in graph:
            for lower in graph[node]:
                self.assertLess(place[lower], place[node])

    # The function is to refuse the tree with a ring of its spots; tells the ring.
    def ring_told(self, grammar, tree, function, *handed):
        with self.assertRaises(errors.LeafError) as taken:
            function(*handed)
        self.assertIs(type(taken.exception), errors.Ring)
        self.ring_held(tree_graph(grammar, tree), taken.exception.ring)
        return taken.exception.ring

    # What is made, with something given, refuses all that is not right, whether or not the tree has a ring.
    def given_held(self, function):
        for sign, downs, ups in GIVEN[0]:
            for right in RIGHT[sign]:
                for handed in wrong_givens(downs, right):
                    for form in ("good", "bad"):
                        self.refused_shortly(errors.NoGiven, function, GIVEN, node(form + sign), handed)
        for handed in ({}, {"n": 1}, {"n": 1, "t": 1}, {"n": "", "t": ""}, {"n": 1, "t": "", "u": 1}):
            self.refused(errors.NoGiven, function, GIVEN, node("goodtwo"), handed)
            self.refused(errors.NoGiven, function, GIVEN, node("badtwo"), handed)

    def ring_held(self, graph, ring):
        self.assertIs(type(ring), list)
        self.assertTrue(ring)
        self.assertEqual(len(set(ring)), len(ring))
        for place, node in enumerate(ring):
            self.assertIn(ring[(place + 1) % len(ring)], graph[node])


class WrittenCase(Case):
    # A class under this one tells how its things are written and read: show, read_text.
    def read(self, thing, written):
        with self.subTest(written):
            self.assertEqual(self.show(thing), written)
            answer = self.read_text(written)
            self.assertEqual(answer, thing)
            self.made_of_tuples(answer)

    def there_and_back(self, thing):
        self.read(thing, self.show(thing))
