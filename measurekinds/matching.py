"""Whether a kind is an instance of another, and by which substitution."""

from measurekinds.forms import is_same, kind_within
from measurekinds.rows import bring_down, column, picked, take_off
from measurekinds.shapes import end_of, is_variable_part
from measurekinds.showing import show_kind, show_measure, variable_names


class Substitution:
    # kinds: the kind for each kind variable, measures: the powers for each measure variable.
    def __init__(self, kinds, measures):
        self.kinds = kinds
        self.measures = measures


def match_normal(general, special):
    # A Substitution, or None if special is no instance of general. Both are normal forms.
    kinds = match_shapes(general, special)
    if kinds is None:
        return None
    measures = match_measures(general, special, matched_places(general.shape, special.shape))
    if measures is None:
        return None
    return Substitution(kinds, measures)


def order_normal(one, other):
    # 1 if the second is an instance of the first, and 2 more if the first is one of the second.
    over = 0 if match_normal(one, other) is None else 1
    under = 0 if match_normal(other, one) is None else 2
    return over + under


def match_shapes(general, special):
    # The kind for each kind variable of general, or None.
    kinds = {}
    at = 0
    for part in general.shape:
        if is_variable_part(part):
            end = end_of(special.shape, at)
            kind = kind_within(special, at, end)
            if not is_same(kinds.setdefault(part, kind), kind):
                return None
            at = end
        else:
            if special.shape[at] != part:
                return None
            at += 1
    return kinds


def matched_places(general_shape, special_shape):
    # For each place of general the place of special that it becomes; the shapes are matched already.
    places = []
    at = 0
    for part in general_shape:
        if part == "num":
            places.append(special_shape[:at].count("num"))
        at = end_of(special_shape, at) if is_variable_part(part) else at + 1
    return places


def match_measures(general, special, places):
    # For each measure variable of general its powers of special's measure variables and of the bases.
    # In a home only that variable and earlier ones have powers, so these are found one after another,
    # and there is no choice; what is left over in any place is what can't be had.
    wanted = [picked(row, places) for row in special.rows]
    for row, own in zip(special.base_rows, general.base_rows):
        wanted.append(take_off(picked(row, places), 1, own))
    taken = []
    for row in wanted:
        found = bring_down(row, general.rows)
        if any(found[1]):
            return None
        taken.append(found[0])
    return [column(taken, at) for at in range(len(general.rows))]


def show_substitution(substitution, general, special, bases):
    shown = []
    for name, kind in substitution.kinds.items():
        text = show_kind(kind, bases)
        shown.append(f"{name}={text}")
    told_in = variable_names(special) + bases
    for name, powers in zip(variable_names(general), substitution.measures):
        text = show_measure(told_in, powers)
        shown.append(f"{name}={text}")
    return ", ".join(shown)
