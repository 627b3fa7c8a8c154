"""The looker: the reaches of forms, and whether some tree of a grammar has a ring."""

from leafsay.errors import Ring, TooGreat
from leafsay.grammars import sign_row, value_kinds
from leafsay.graphs import order_of, reached
from leafsay.terms import named
from leafsay.trees import MOST_DEEP, MOST_NODES


def rule_ties(grammar, form):
    ties = {}
    for pair in value_kinds(grammar, form):
        ties[pair] = []
    for k, name, term in form[3]:
        ties[(k, name)] = named(term)
    return ties


def with_reaches(ties, reaches):
    graph = dict(ties)
    for k, reach in enumerate(reaches, start=1):
        for down, up in reach:
            # A new list each time, as those of the ties are wanted again as they are.
            graph[(k, up)] = graph[(k, up)] + [(k, down)]
    return graph


def reach_in(sign, graph):
    # Asked for its refusal alone.
    order_of(graph)
    beneath = [(up, reached(graph, (0, up))) for up, kind in sign[2]]
    found = []
    for down, kind in sign[1]:
        found.extend([(down, up) for up, lower in beneath if (0, down) in lower])
    return tuple(found)


def reach_of(grammar, form, reaches):
    return reach_in(sign_row(grammar, form[1]), with_reaches(rule_ties(grammar, form), reaches))


def numbers_of(rows, sign):
    return [number for number, row in enumerate(rows) if row[0] == sign]


def all_choices(options):
    choices = [()]
    for numbers in options:
        longer = []
        for choice in choices:
            longer.extend([choice + (number,) for number in numbers])
        choices = longer
    return choices


def choices_with_last(rows, branches):
    newest = len(rows) - 1
    choices = []
    for place, sign in enumerate(branches):
        if sign == rows[newest][0]:
            # Here the newest row stands first, so that each choice comes up once.
            options = [numbers_of(rows[:newest], other) for other in branches[:place]]
            options.append([newest])
            options.extend([numbers_of(rows, other) for other in branches[place + 1:]])
            choices.extend(all_choices(options))
    return choices


def look(grammar):
    ties = dict([(form[0], rule_ties(grammar, form)) for form in grammar[1]])
    rows = []
    known = {}
    # A choice waits from when the last of its rows is there, so each is looked at once.
    waiting = [(form, ()) for form in grammar[1] if form[2] == ()]
    place = 0
    while place < len(waiting):
        form = waiting[place][0]
        lower = waiting[place][1]
        graph = with_reaches(ties[form[0]], [rows[number][1] for number in lower])
        try:
            reach = reach_in(sign_row(grammar, form[1]), graph)
        except Ring as found:
            return ("ring", rows, form[0], lower, found.ring)
        if (form[1], reach) not in known:
            known[(form[1], reach)] = True
            rows.append((form[1], reach, form[0], lower))
            for other in grammar[1]:
                waiting.extend([(other, choice) for choice in choices_with_last(rows, other[2])])
        place += 1
    return ("clear", rows)


def check_growth(rows, number):
    sizes = []
    depths = []
    for row in rows[:number + 1]:
        sizes.append(1 + sum([sizes[lower] for lower in row[3]]))
        depths.append(1 + max([depths[lower] for lower in row[3]], default=0))
    if sizes[number] > MOST_NODES or depths[number] > MOST_DEEP:
        raise TooGreat(f"the tree would have more than {MOST_NODES} nodes or be deeper than {MOST_DEEP}")


def tree_by(rows, number):
    row = rows[number]
    return (row[2], 0, tuple([tree_by(rows, lower) for lower in row[3]]))


def grown(grammar, rows, number):
    check_growth(rows, number)
    return tree_by(rows, number)
