"""Shapes: a kind without its measures, as the list of its parts, each before the parts it is made of.

A part is one of the texts truth, num, list, pair and arrow, or a kind variable's own text. The nums of a
shape stand in it from left to right, as they are written.
"""

from measurekinds.signs import SMALL_LETTERS, unused_names

MADE_OF = {"list": 1, "pair": 2, "arrow": 2}


def is_variable_part(part):
    return part.startswith("'")


def end_of(shape, start):
    # Where the kind ends that begins at start.
    at = start
    missing = 1
    while missing > 0:
        missing += MADE_OF.get(shape[at], 0) - 1
        at += 1
    return at


def inner_parts(shape):
    # For each part the list of where the parts begin that it is made of. From right to left, so
    # that those that are wanted lie on the pile, the left one on top.
    pile = []
    found = [[] for part in shape]
    for at in range(len(shape) - 1, -1, -1):
        for turn in range(MADE_OF.get(shape[at], 0)):
            found[at].append(pile.pop())
        pile.append(at)
    return found


def variables_in(shape):
    # Each once, in the order in which they first stand.
    names = {}
    for part in shape:
        if is_variable_part(part):
            names[part] = True
    return list(names)


def with_names(shape, variables, names):
    # These variables get these names, one after another.
    new_names = dict(zip(variables, names))
    return [new_names.get(part, part) for part in shape]


def renamed(shape):
    variables = variables_in(shape)
    return with_names(shape, variables, unused_names("'", SMALL_LETTERS, [], len(variables)))
