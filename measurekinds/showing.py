"""How kinds and measures are shown."""

from measurekinds.limits import LARGEST_POWER
from measurekinds.refusals import TooFar
from measurekinds.rows import column
from measurekinds.signs import CAPITALS


def variable_names(kind):
    return list(CAPITALS[:len(kind.rows)])


def show_factor(name, power):
    # Asked before the power is written out: Python writes no number of thousands of digits.
    if abs(power) > LARGEST_POWER:
        raise TooFar()
    return name if power == 1 else f"{name}^{power}"


def show_measure(names, powers):
    factors = [show_factor(name, power) for name, power in zip(names, powers) if power != 0]
    return "1" if len(factors) == 0 else ".".join(factors)


def show_num(names, powers):
    measure = show_measure(names, powers)
    return "num" if measure == "1" else f"num[{measure}]"


def show_kind(kind, bases):
    return show_parts(kind.shape, variable_names(kind) + bases, kind.rows + kind.base_rows)


def show_parts(shape, names, rows):
    # In the rows are the powers of what the names call, in this order.
    place = shape.count("num")
    # From right to left, so that the shown parts of a part lie on the pile, the left one on top.
    pile = []
    for part in reversed(shape):
        if part == "num":
            place -= 1
            pile.append((part, show_num(names, column(rows, place))))
        else:
            pile.append((part, show_part(part, pile)))
    return pile[0][1]


def show_part(part, pile):
    if part == "list":
        item = in_brackets(pile.pop())
        return f"list {item}"
    if part == "pair":
        left = pile.pop()[1]
        right = pile.pop()[1]
        return f"({left}, {right})"
    if part == "arrow":
        left = in_brackets(pile.pop())
        right = pile.pop()[1]
        return f"{left} -> {right}"
    return part


def in_brackets(shown):
    text = shown[1]
    return f"({text})" if shown[0] == "arrow" else text
