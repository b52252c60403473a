"""What must be true of every answer, tried on many made-up kinds (the same ones each time)."""

import itertools
import random
import unittest

import oracle
from support import match, meet, normal, size

BASES = ("m", "s")
VARIABLES = ("A", "B1", "Z")
KIND_VARIABLES = ("'a", "'b", "'q7")


def made_measure(source, names, most):
    return {name: power for name in names if (power := source.choice((0, 0, source.randint(-most, most))))}


def made_kind(source, depth, names=VARIABLES + BASES, most=4):
    choice = source.randrange(9) if depth else source.randrange(4)
    if choice < 3:
        return ("num", made_measure(source, names, most))
    if choice == 3:
        return ("var", source.choice(KIND_VARIABLES)) if source.randrange(3) else ("truth",)
    if choice == 4:
        return ("list", made_kind(source, depth - 1, names, most))
    name = "pair" if choice == 5 else "arrow"
    return (name, made_kind(source, depth - 1, names, most), made_kind(source, depth - 1, names, most))


def over(source, kind, seen):
    """A kind of which the given one is an instance. Its own variables A, B1, Z stand for A, B1, Z of the given
    kind, and X and Y for products that are made up and kept in seen."""
    if source.randrange(4) == 0:
        for name, other in seen["kinds"].items():
            if other == kind:
                return ("var", name)
        if len(seen["kinds"]) < 10:
            name = f"'v{len(seen['kinds'])}"
            seen["kinds"][name] = kind
            return ("var", name)
    if kind[0] == "num":
        measure = kind[1]
        for name in ("X", "Y"):
            times = source.randint(-2, 2)
            taken = oracle.product(measure, seen["measures"][name], -times)
            measure = oracle.product(taken, {name: times})
        return ("num", measure)
    if kind[0] == "var":
        # Of its own: in a kind that is over another, a kind variable stands for one alone.
        return over_variable(kind, seen)
    return (kind[0],) + tuple(over(source, part, seen) for part in kind[1:])


def over_variable(kind, seen):
    for name, other in seen["kinds"].items():
        if other == kind:
            return ("var", name)
    name = f"'w{len(seen['kinds'])}"
    seen["kinds"][name] = kind
    return ("var", name)


def made_over(source, kind):
    measures = {"X": made_measure(source, VARIABLES + BASES, 3), "Y": made_measure(source, VARIABLES + BASES, 3)}
    return over(source, kind, {"kinds": {}, "measures": measures})


def read_substitution(text, general):
    """The kinds and the measures of a substitution's text."""
    kinds, measures = {}, {}
    names = list(dict.fromkeys(oracle.variables_of(general))) + oracle.variable_names(general)
    starts = []
    at = 0
    for name in names:
        mark = (", " if starts else "") + name + "="
        at = text.index(mark, at)
        starts.append((at, at + len(mark)))
        at += len(mark)
    ends = [start for start, unused in starts[1:]] + [len(text)]
    for name, (unused, start), end in zip(names, starts, ends):
        if name.startswith("'"):
            kinds[name] = oracle.read(text[start:end])
        else:
            measures[name] = oracle.read_measure(text[start:end])
    return kinds, measures


class Laws(unittest.TestCase):
    def is_instance(self, special, general):
        """Asks match, and puts its substitution in to see that it is one."""
        answer = match(general, special, BASES)
        if answer is None:
            return False
        whole = oracle.read(normal(general, BASES))
        kinds, measures = read_substitution(answer, whole)
        self.assertEqual(oracle.put_in(whole, kinds, measures), oracle.read(normal(special, BASES)))
        return True

    def test_normal_forms(self):
        source = random.Random(1)
        for turn in range(600):
            kind = made_kind(source, 3)
            text = oracle.write(kind)
            shown = normal(text, BASES)
            if isinstance(shown, int):
                self.assertIn(shown, (-6, -7), text)
                continue
            found = oracle.read(shown)
            self.assertTrue(oracle.is_normal_form_of(found, kind, BASES), (text, shown))
            self.assertEqual(normal(shown, BASES), shown)
            self.assertEqual(size(text, BASES)[1:], [len(set(oracle.variables_of(found))), len(oracle.rows_of(found))])

    def test_alike_kinds_have_one_normal_form(self):
        source = random.Random(2)
        steps = [(one, other) for one in VARIABLES for other in VARIABLES + BASES if one != other]
        for turn in range(300):
            kind = made_kind(source, 3)
            other = kind
            for step in range(source.randrange(5)):
                name, more = source.choice(steps)
                turned = {name: source.choice((1, -1))}
                other = oracle.put_in(other, {}, {name: oracle.product(turned, {more: source.randint(-2, 2)})})
            shown = normal(oracle.write(kind), BASES)
            self.assertEqual(normal(oracle.write(other), BASES), shown, oracle.write(kind))

    def test_instances_are_found(self):
        source = random.Random(3)
        tried = 0
        for turn in range(400):
            special = made_kind(source, 3)
            general = made_over(source, special)
            one, other = oracle.write(general), oracle.write(special)
            if isinstance(match(one, other, BASES), int):
                continue
            tried += 1
            self.assertTrue(self.is_instance(other, one), (one, other))
        self.assertGreater(tried, 250)

    def test_meets_are_instances_of_both_and_over_each_other_such(self):
        source = random.Random(4)
        tried = 0
        for turn in range(400):
            common = made_kind(source, 3, most=2)
            one, other = oracle.write(made_over(source, common)), oracle.write(made_over(source, common))
            text = oracle.write(common)
            shown = meet(one, other, BASES)
            if isinstance(shown, int):
                self.assertIn(shown, (-6, -7), (one, other))
                continue
            tried += 1
            self.assertTrue(oracle.is_normal(oracle.read(shown), BASES), shown)
            self.assertEqual(meet(other, one, BASES), shown)
            self.assertIsNotNone(match(shown, text, BASES), (one, other, shown, text))
            for over_it in (one, other):
                if not isinstance(normal(over_it, BASES), int):
                    self.assertTrue(self.is_instance(shown, over_it), (one, other, shown))
        self.assertGreater(tried, 250)

    def test_measures_that_can_not_be_made_equal(self):
        source = random.Random(5)
        answered = {True: 0, False: 0}
        for turn in range(200):
            rows = [[made_measure(source, ("A", "B", "m"), 3) for place in range(2)] for side in range(2)]
            texts = ["->".join(f"num[{oracle.write_measure(measure)}]" for measure in row) for row in rows]
            shown = meet(texts[0], texts[1], BASES)
            answered[shown == -11] += 1
            if shown == -11:
                self.assertFalse(has_small_solution(rows), texts)
            elif shown != -7:
                self.assertTrue(self.is_instance(shown, texts[0]), texts)
                self.assertTrue(self.is_instance(shown, texts[1]), texts)
        self.assertGreater(min(answered.values()), 30)


def has_small_solution(rows):
    """Whether powers of m from -5 to 5 for the variables of both sides make both places equal."""
    powers = range(-5, 6)
    for found in itertools.product(powers, repeat=4):
        sides = zip(rows, (found[:2], found[2:]))
        left, right = [[row.get("A", 0) * a + row.get("B", 0) * b + row.get("m", 0) for row in side]
                       for side, (a, b) in sides]
        if left == right:
            return True
    return False


if __name__ == "__main__":
    unittest.main()
