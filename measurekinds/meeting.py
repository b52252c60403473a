"""The most general common instance of two kinds, and the kind of a function put to an argument."""

from measurekinds.forms import Kind, kind_within, normal_form
from measurekinds.limits import MOST_PARTS
from measurekinds.refusals import NoCommonMeasure, NoCommonShape
from measurekinds.rows import bring_down, picked, staircase, stairs_behind
from measurekinds.shapes import end_of, inner_parts, is_variable_part, renamed

# A kind variable that is called like none in a text.
RESULT = "'"


class Meeting:
    # The parts of both kinds, those of the first ahead of those of the second. A part that has been made
    # one with another points to it; a part that points to itself stands for all that lead to it.
    def __init__(self, one, other):
        self.parts = one.shape + other.shape
        self.inner = inner_parts(self.parts)
        self.points_to = list(range(len(self.parts)))
        self.point_to_first(0, len(one.shape))
        self.point_to_first(len(one.shape), len(self.parts))
        # Two and two parts that are nums and must have one measure.
        self.equal_nums = []

    def point_to_first(self, start, end):
        firsts = {}
        for at in range(start, end):
            if is_variable_part(self.parts[at]):
                self.points_to[at] = firsts.setdefault(self.parts[at], at)

    def standing_for(self, part):
        at = part
        while self.points_to[at] != at:
            at = self.points_to[at]
        return at

    def make_one(self, one, other):
        wanted = [(one, other)]
        while len(wanted) > 0:
            two = wanted.pop()
            left = self.standing_for(two[0])
            right = self.standing_for(two[1])
            if left != right:
                wanted.extend(self.make_two_one(left, right))

    def make_two_one(self, left, right):
        # What else must then be made one.
        if is_variable_part(self.parts[left]):
            self.points_to[left] = right
            return []
        if is_variable_part(self.parts[right]):
            self.points_to[right] = left
            return []
        if self.parts[left] != self.parts[right]:
            raise NoCommonShape()
        self.points_to[left] = right
        if self.parts[left] == "num":
            self.equal_nums.append((left, right))
        return list(zip(self.inner[left], self.inner[right]))

    def parts_below(self, start):
        # A kind variable that would stand within itself makes parts without end: the limit ends these too.
        found = []
        wanted = [start]
        while len(wanted) > 0:
            at = self.standing_for(wanted.pop())
            found.append(at)
            if len(found) > MOST_PARTS:
                raise NoCommonShape()
            wanted.extend(list(reversed(self.inner[at])))
        return found

    def shape_of(self, found):
        # Parts of both kinds may be variables of the same text: where they stand tells them apart.
        return renamed([f"'{at}" if is_variable_part(self.parts[at]) else self.parts[at] for at in found])

    def place_of(self, part):
        return self.parts[:part].count("num")


def meet_kinds(one, other):
    # In normal form.
    meeting = Meeting(one, other)
    meeting.make_one(0, len(one.shape))
    found = meeting.parts_below(0)
    equal = [(meeting.place_of(left), meeting.place_of(right)) for left, right in meeting.equal_nums]
    places = [meeting.place_of(at) for at in found if meeting.parts[at] == "num"]
    rows = [with_differences(row, equal, places) for row in rows_of_both(one, other)]
    base_rows = [with_differences(row, equal, places) for row in base_rows_of_both(one, other)]
    return with_equal_places(meeting.shape_of(found), rows, base_rows, len(equal))


def rows_of_both(one, other):
    # Over the places of the first kind and then of the second.
    none_of_one = [0] * one.shape.count("num")
    none_of_other = [0] * other.shape.count("num")
    return [row + none_of_other for row in one.rows] + [none_of_one + row for row in other.rows]


def base_rows_of_both(one, other):
    return [row + more for row, more in zip(one.base_rows, other.base_rows)]


def with_differences(row, equal, places):
    # For each two places that must be equal what they differ by, and then the powers in the places.
    return [row[left] - row[right] for left, right in equal] + picked(row, places)


def with_equal_places(shape, rows, base_rows, count):
    # The first numbers of the rows, as many as count says, must become 0: stairs that have their home
    # among them can't be left free, and each base must be brought down to 0 there.
    stairs = staircase(rows)
    lowered_rows = [bring_down(row, stairs)[1] for row in base_rows]
    for row in lowered_rows:
        if any(row[:count]):
            raise NoCommonMeasure()
    return Kind(shape, stairs_behind(stairs, count), [row[count:] for row in lowered_rows])


def apply_kinds(function, argument):
    # In normal form.
    wanted = Kind(["arrow"] + argument.shape + [RESULT], argument.rows, argument.base_rows)
    found = meet_kinds(function, wanted)
    return normal_form(kind_within(found, end_of(found.shape, 1), len(found.shape)))
