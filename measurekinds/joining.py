"""The least general kind over two kinds."""

from measurekinds.forms import Kind, is_same, kind_within, normal_form
from measurekinds.rows import picked, take_off
from measurekinds.shapes import end_of, is_variable_part


class Joining:
    # Both kinds are walked side by side, from the first part to the last.
    def __init__(self, one, other):
        self.one = one
        self.other = other
        self.shape = []
        # For each place of the shape the place of the first kind and that of the second.
        self.one_places = []
        self.other_places = []
        # For each kind variable of the shape the kind of the first and that of the second it stands over.
        self.pairs = []

    def walk(self):
        at = 0
        other_at = 0
        while at < len(self.one.shape):
            part = self.one.shape[at]
            if part == self.other.shape[other_at] and not is_variable_part(part):
                self.take_part(at, other_at)
                at += 1
                other_at += 1
            else:
                end = end_of(self.one.shape, at)
                other_end = end_of(self.other.shape, other_at)
                self.take_pair(kind_within(self.one, at, end), kind_within(self.other, other_at, other_end))
                at = end
                other_at = other_end

    def take_part(self, at, other_at):
        self.shape.append(self.one.shape[at])
        if self.one.shape[at] == "num":
            self.one_places.append(self.one.shape[:at].count("num"))
            self.other_places.append(self.other.shape[:other_at].count("num"))

    def take_pair(self, kind, other_kind):
        known = 0
        while known < len(self.pairs) and not is_same_pair(self.pairs[known], (kind, other_kind)):
            known += 1
        if known == len(self.pairs):
            self.pairs.append((kind, other_kind))
        self.shape.append(f"'{known}")


def is_same_pair(pair, other):
    return is_same(pair[0], other[0]) and is_same(pair[1], other[1])


def join_kinds(one, other):
    # In normal form.
    joining = Joining(one, other)
    joining.walk()
    rows = [picked(row, joining.one_places) for row in one.rows]
    rows.extend([picked(row, joining.other_places) for row in other.rows])
    base_rows = [picked(row, joining.other_places) for row in other.base_rows]
    # A measure that is the one product in the first kind and another in the second is that of the second
    # times what they differ by: for each base, one variable more stands for it in the first kind alone.
    for row, base_row in zip(one.base_rows, base_rows):
        rows.append(take_off(picked(row, joining.one_places), 1, base_row))
    return normal_form(Kind(joining.shape, rows, base_rows))
