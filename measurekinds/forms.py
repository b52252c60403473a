"""Kinds as they are worked with, and their normal form."""

from measurekinds.rows import bring_down, staircase
from measurekinds.shapes import renamed


class Kind:
    # rows: for each measure variable, base_rows: for each base, its powers in the places.
    def __init__(self, shape, rows, base_rows):
        self.shape = shape
        self.rows = rows
        self.base_rows = base_rows


def normal_form(kind):
    stairs = staircase(kind.rows)
    return Kind(renamed(kind.shape), stairs, [bring_down(row, stairs)[1] for row in kind.base_rows])


def kind_within(kind, start, end):
    # The kind whose parts are these, told in the variables of the whole one.
    first = kind.shape[:start].count("num")
    behind = kind.shape[:end].count("num")
    rows = [row[first:behind] for row in kind.rows]
    return Kind(kind.shape[start:end], rows, [row[first:behind] for row in kind.base_rows])


def is_same(one, other):
    return one.shape == other.shape and one.rows == other.rows and one.base_rows == other.base_rows
