"""Kinds as nested tuples, read, shown and substituted without the program, to hold its answers against.

A kind is ("truth",), ("num", measure), ("var", name), ("list", kind), ("pair", kind, kind) or
("arrow", kind, kind); a measure is a dict from names to powers that are not 0.
"""

import itertools
import math
import re

TOKEN = re.compile(r" *(\(|\)|,|->|[a-z0-9_]+|'[a-z0-9_]+|\[[^\]]*\])")


def product(one, other, times=1):
    sums = dict(one)
    for name, power in other.items():
        sums[name] = sums.get(name, 0) + times * power
    return {name: power for name, power in sums.items() if power}


def read_measure(text):
    found = {}
    for factor in text.split("."):
        if factor != "1":
            name, _, power = factor.partition("^")
            found = product(found, {name: int(power or 1)})
    return found


def read(text):
    tokens = TOKEN.findall(text)
    kind, at = read_from(tokens, 0)
    if at != len(tokens):
        raise AssertionError(text)
    return kind


def read_from(tokens, at):
    item, at = read_item(tokens, at)
    if at < len(tokens) and tokens[at] == "->":
        right, at = read_from(tokens, at + 1)
        return ("arrow", item, right), at
    return item, at


def read_item(tokens, at):
    token = tokens[at]
    if token == "list":
        item, at = read_item(tokens, at + 1)
        return ("list", item), at
    if token == "(":
        kind, at = read_from(tokens, at + 1)
        if tokens[at] == ",":
            right, at = read_from(tokens, at + 1)
            kind = ("pair", kind, right)
        return kind, at + 1
    if token == "num":
        if at + 1 < len(tokens) and tokens[at + 1].startswith("["):
            return ("num", read_measure(tokens[at + 1][1:-1])), at + 2
        return ("num", {}), at + 1
    return (("truth",) if token == "truth" else ("var", token)), at + 1


def write_measure(measure):
    return ".".join(f"{name}^{power}" for name, power in measure.items()) or "1"


def write(kind):
    """With more brackets than are needed."""
    if kind[0] == "num":
        return f"num[{write_measure(kind[1])}]"
    if kind[0] == "var":
        return kind[1]
    if kind[0] == "list":
        return f"list ({write(kind[1])})"
    if kind[0] == "pair":
        return f"({write(kind[1])}, {write(kind[2])})"
    if kind[0] == "arrow":
        return f"({write(kind[1])}) -> {write(kind[2])}"
    return "truth"


def measures_of(kind):
    if kind[0] == "num":
        return [kind[1]]
    return [found for part in kind[1:] if isinstance(part, tuple) for found in measures_of(part)]


def variables_of(kind):
    if kind[0] == "var":
        return [kind[1]]
    return [found for part in kind[1:] if isinstance(part, tuple) for found in variables_of(part)]


def put_in_measure(measure, measures):
    found = {}
    for name, power in measure.items():
        found = product(found, measures.get(name, {name: 1}), power)
    return found


def put_in(kind, kinds, measures):
    if kind[0] == "var":
        return kinds.get(kind[1], kind)
    if kind[0] == "num":
        return ("num", put_in_measure(kind[1], measures))
    return (kind[0],) + tuple(put_in(part, kinds, measures) for part in kind[1:])


def without_measures(kind):
    if kind[0] == "num":
        return ("num",)
    return (kind[0],) + tuple(without_measures(part) if isinstance(part, tuple) else part for part in kind[1:])


def row_of(kind, name):
    return [measure.get(name, 0) for measure in measures_of(kind)]


def variable_names(kind):
    return sorted({name for measure in measures_of(kind) for name in measure if name[0].isupper()})


def rows_of(kind):
    return [row_of(kind, name) for name in variable_names(kind)]


def home(row):
    return next(at for at, power in enumerate(row) if power)


def is_normal(kind, bases):
    """What the document says of the normal form, sentence by sentence."""
    names = list(dict.fromkeys(variables_of(kind)))
    if names != [f"'{letter}" for letter in "abcdefghijklmnopqrst"[:len(names)]]:
        return False
    names = variable_names(kind)
    if names != list("ABCDEFGHIJKLMNOPQRST"[:len(names)]):
        return False
    rows = rows_of(kind)
    homes = [home(row) for row in rows]
    if homes != sorted(set(homes)) or any(row[at] <= 0 for row, at in zip(rows, homes)):
        return False
    for count, at in enumerate(homes):
        lower = rows[:count] + [row_of(kind, base) for base in bases]
        if any(not 0 <= row[at] < rows[count][at] for row in lower):
            return False
    return True


def is_spanned(row, stairs):
    """Whether the row is a sum of whole multiples of the stairs."""
    for stair in stairs:
        at = home(stair)
        times = row[at] // stair[at]
        row = [power - times * taken for power, taken in zip(row, stair)]
    return not any(row)


def determinant(rows):
    if not rows:
        return 1
    return sum((-1) ** at * rows[0][at] * determinant([row[:at] + row[at + 1:] for row in rows[1:]])
               for at in range(len(rows)) if rows[0][at])


def divisor(rows, rank):
    """The greatest number that divides all minors of this rank; 0 if all are 0."""
    width = len(rows[0]) if rows else 0
    return math.gcd(*[determinant([[row[at] for at in columns] for row in chosen])
                      for chosen in itertools.combinations(rows, rank)
                      for columns in itertools.combinations(range(width), rank)])


def is_normal_form_of(shown, kind, bases):
    """Whether this is normal and alike to the kind: the same rows are spanned, and bases differ by such rows."""
    if not is_normal(shown, bases):
        return False
    stairs = rows_of(shown)
    rows = rows_of(kind)
    if not all(is_spanned(row, stairs) for row in rows):
        return False
    if divisor(rows, len(stairs)) != divisor(stairs, len(stairs)):
        return False
    for base in bases:
        differences = [power - other for power, other in zip(row_of(kind, base), row_of(shown, base))]
        if not is_spanned(differences, stairs):
            return False
    names = list(dict.fromkeys(variables_of(kind)))
    new = {name: ("var", f"'{letter}") for name, letter in zip(names, "abcdefghijklmnopqrst")}
    return without_measures(put_in(kind, new, {})) == without_measures(shown)


def is_in_lattice(row, rows):
    """Whether the row is a sum of whole multiples of the rows: told by minors alone."""
    rank = max((size for size in range(1, len(rows) + 1) if size <= len(row) and divisor(rows, size)), default=0)
    if rank == 0:
        return not any(row)
    more = rows + [row]
    if rank < len(row) and divisor(more, rank + 1):
        return False
    return divisor(more, rank) == divisor(rows, rank)


def joined(one, other, bases, pairs):
    """A kind over both, not in normal form: the measure variables of the one with L before them, those of the other
    with R before them, and for each base a variable that is that base in the one and nothing in the other."""
    if one[0] != other[0] or one[0] == "var":
        for name, pair in pairs.items():
            if pair == (one, other):
                return ("var", name)
        name = f"'v{len(pairs)}"
        pairs[name] = (one, other)
        return ("var", name)
    if one[0] == "num":
        return ("num", joined_measure(one[1], other[1], bases))
    return (one[0],) + tuple(joined(part, more, bases, pairs) for part, more in zip(one[1:], other[1:]))


def joined_measure(one, other, bases):
    found = {}
    for side, measure in (("L", one), ("R", other)):
        for name, power in measure.items():
            if name not in bases:
                found = product(found, {side + name: power})
    for base in bases:
        found = product(found, {f"D{base}": one.get(base, 0)})
        found = product(found, {f"D{base}": -other.get(base, 0), base: other.get(base, 0)})
    return found


WORD = re.compile(r"[a-z0-9_]+")
VARIABLE = re.compile(r"'([a-z0-9_]*)")
FACTOR = r"(1|([a-z][a-z0-9_]{0,11}|[A-Z][0-9]{0,2})(\^-?[0-9]{1,3})?)"
MEASURE = re.compile(rf"\[{FACTOR}([./]{FACTOR}){{0,59}}\]")


def tokens(text):
    """Where each begins, and the token, or None for a bad one, which is the last."""
    at = openings = 0
    while at < len(text):
        if text[at] == " ":
            at += 1
            continue
        token = token_at(text, at)
        openings += token == "("
        if token is None or openings > 40:
            yield at, None
            return
        yield at, token
        at += len(token)


def token_at(text, at):
    for sign in ("(", ")", ",", "->"):
        if text.startswith(sign, at):
            return sign
    if found := WORD.match(text, at):
        return found[0]
    if found := VARIABLE.match(text, at):
        return found[0] if re.fullmatch("[a-z][0-9]{0,2}", found[1]) else None
    if text[at] == "[":
        end = text.find("]", at)
        return text[at:end + 1] if end >= 0 and MEASURE.fullmatch(text, at, end + 1) else None
    return None


def first_wrong(text):
    """Where the first token begins that can't stand there, the length if the text ends too early, or None. What
    must still come is kept on a pile: an item, what can stand behind one, and the ends of brackets."""
    pile = ["behind", "item"]
    for at, token in tokens(text):
        if token is None or not step(pile, token):
            return at
    while pile and pile[-1] in ("behind", "measure"):
        pile.pop()
    return len(text) if pile else None


def step(pile, token):
    if pile[-1] == "measure":
        pile.pop()
        if token[0] == "[":
            return True
    if pile[-1] == "item":
        pile.pop()
        if token == "list":
            pile.append("item")
        elif token == "(":
            pile.extend(["comma or end", "behind", "item"])
        elif token == "num":
            pile.append("measure")
        else:
            return token == "truth" or token[0] == "'"
        return True
    if pile[-1] == "behind":
        if token == "->":
            pile.append("item")
            return True
        pile.pop()
        if not pile:
            return False
    end = pile.pop()
    if token == "," and end == "comma or end":
        pile.extend(["end", "behind", "item"])
        return True
    return token == ")"
