"""What must be true of every answer of join, order, apply, free and fault, tried on many made-up kinds."""

import itertools
import random
import re
import unittest

import oracle
from support import apply, fault, free, join, match, meet, normal, order
from test_laws import BASES, KIND_VARIABLES, VARIABLES, made_kind, made_measure

LETTERS = "abcdefghijklmnopqrstuvwxyz"


def instance_of(source, kind):
    """The kind with made-up kinds and measures put in for its variables, or for some of them."""
    kinds = {name: made_kind(source, 1, most=2) for name in KIND_VARIABLES if source.randrange(4)}
    measures = {name: made_measure(source, VARIABLES + BASES, 2) for name in VARIABLES if source.randrange(4)}
    return oracle.put_in(kind, kinds, measures)


def unused(names, taken):
    return [name for name in names if name not in taken]


class Joins(unittest.TestCase):
    def test_joins_are_as_the_document_builds_them(self):
        source = random.Random(11)
        tried = 0
        for turn in range(300):
            whole = made_kind(source, 2, most=3)
            one, other = instance_of(source, whole), instance_of(source, whole)
            texts = oracle.write(one), oracle.write(other)
            shown = join(*texts, BASES)
            if isinstance(shown, int):
                self.assertIn(shown, (-6, -7), texts)
                continue
            tried += 1
            wanted = oracle.joined(one, other, BASES, {})
            self.assertTrue(oracle.is_normal_form_of(oracle.read(shown), wanted, BASES), (texts, shown))
        self.assertGreater(tried, 250)

    def test_joins_are_over_both_and_under_all_that_are_over_both(self):
        source = random.Random(12)
        tried = 0
        for turn in range(300):
            whole = made_kind(source, 3, most=3)
            one, other = oracle.write(instance_of(source, whole)), oracle.write(instance_of(source, whole))
            shown = join(one, other, BASES)
            if isinstance(shown, int):
                continue
            tried += 1
            self.assertEqual(join(other, one, BASES), shown)
            self.assertEqual(normal(shown, BASES), shown)
            self.assertIn(order(shown, one, BASES), (1, 3), (one, other, shown))
            self.assertIn(order(shown, other, BASES), (1, 3), (one, other, shown))
            self.assertIn(order(oracle.write(whole), shown, BASES), (1, 3), (one, other, shown, oracle.write(whole)))
            self.assertEqual(join(one, one, BASES), normal(one, BASES))
            self.assertEqual(join(one, shown, BASES), shown)
        self.assertGreater(tried, 200)


class Orders(unittest.TestCase):
    def test_orders_are_as_match_tells(self):
        source = random.Random(13)
        seen = set()
        for turn in range(400):
            whole = made_kind(source, 2, most=2)
            one, other = source.choice([(whole, instance_of(source, whole)), (instance_of(source, whole), whole),
                                        (instance_of(source, whole), instance_of(source, whole)), (whole, whole)])
            texts = oracle.write(one), oracle.write(other)
            answer = order(*texts, BASES)
            if answer < 0:
                continue
            seen.add(answer)
            self.assertEqual(answer & 1, int(match(*texts, BASES) is not None), texts)
            self.assertEqual(answer >> 1, int(match(*texts[::-1], BASES) is not None), texts)
            if not isinstance(normal(texts[0], BASES), int):
                self.assertEqual(answer == 3, normal(texts[0], BASES) == normal(texts[1], BASES), texts)
        self.assertEqual(seen, {0, 1, 2, 3})


class Results(unittest.TestCase):
    def test_results_are_those_of_a_meet(self):
        source = random.Random(14)
        seen = {"answered": 0, -10: 0, -11: 0}
        for turn in range(600):
            whole = made_kind(source, 2, most=2)
            argument = instance_of(source, whole)
            function = source.choice([whole, ("arrow", instance_of(source, whole), made_kind(source, 2, most=2))])
            texts = oracle.write(function), oracle.write(argument)
            shown = apply(*texts, BASES)
            whole = meet(texts[0], f"({texts[1]}) -> 'z9", BASES)
            if shown == -7 or whole in (-6, -7):
                continue
            if isinstance(shown, int):
                self.assertEqual(shown, whole, texts)
                seen[shown] += 1
                continue
            seen["answered"] += 1
            self.assertEqual(shown, normal(oracle.write(oracle.read(whole)[2]), BASES), texts)
        self.assertGreater(min(seen.values()), 10, seen)


class Freedoms(unittest.TestCase):
    def setUp(self):
        self.kind = self.held = self.found = None

    def rows(self, kind, names):
        return [oracle.row_of(kind, name) for name in names]

    def test_free_kinds(self):
        source = random.Random(15)
        tried = 0
        for turn in range(400):
            self.kind = made_kind(source, 3, most=3)
            self.held = [made_kind(source, 1, VARIABLES + BASES[:1], 2) for count in range(source.randrange(4))]
            texts = [oracle.write(kind) for kind in [self.kind] + self.held]
            shown = free(*texts, bases=BASES)
            if isinstance(shown, int):
                self.assertIn(shown, (-6, -7), texts)
                continue
            tried += 1
            self.found = oracle.read(shown)
            with self.subTest(texts=texts, shown=shown):
                self.look_at_kind_variables()
                self.look_at_measures(shown)
        self.assertGreater(tried, 300)

    def look_at_kind_variables(self):
        held = [name for kind in self.held for name in oracle.variables_of(kind)]
        own = list(dict.fromkeys(oracle.variables_of(self.kind)))
        names = unused([f"'{letter}" for letter in LETTERS], held + own)
        new = dict(zip([name for name in own if name not in held], names))
        wanted = oracle.put_in(self.kind, {name: ("var", to) for name, to in new.items()}, {})
        self.assertEqual(oracle.without_measures(wanted), oracle.without_measures(self.found))

    def look_at_measures(self, shown):
        told = list(dict.fromkeys(name for kind in self.held + [self.kind] for measure in oracle.measures_of(kind)
                                  for name in measure if name not in BASES))
        new = [name for name in oracle.variable_names(self.found) if name not in told]
        self.assertEqual(new, unused(LETTERS.upper(), told)[:len(new)])
        stairs = self.rows(self.found, new)
        self.look_at_stairs(stairs, self.rows(self.found, told + list(BASES)))
        self.look_at_span(stairs, told)
        for name in told + list(BASES):
            row, own = oracle.row_of(self.found, name), oracle.row_of(self.kind, name)
            self.assertTrue(oracle.is_spanned([power - less for power, less in zip(own, row)], stairs), name)
        order_told = new + told + list(BASES)
        for measure in re.findall(r"\[(.*?)\]", shown):
            names = [factor.partition("^")[0] for factor in measure.split(".")]
            self.assertEqual(names, sorted(names, key=order_told.index))

    def look_at_stairs(self, stairs, lower):
        homes = [oracle.home(row) for row in stairs]
        self.assertEqual(homes, sorted(set(homes)))
        for count, at in enumerate(homes):
            pivot = stairs[count][at]
            self.assertGreater(pivot, 0)
            for row in stairs[:count] + lower:
                self.assertIn(row[at], range(pivot))

    def look_at_span(self, stairs, told):
        """Each new variable comes from a freedom, and what each freedom makes is had by the new variables."""
        held_rows = [[power for kind in self.held for power in oracle.row_of(kind, name)] for name in told]
        own_rows = self.rows(self.kind, told)
        both = [held + own for held, own in zip(held_rows, own_rows)]
        for stair in stairs:
            self.assertTrue(oracle.is_in_lattice([0] * len(held_rows[0]) + stair, both))
        for freedom in itertools.product(range(-4, 5), repeat=len(told)):
            if not any(summed(freedom, held_rows)):
                self.assertTrue(oracle.is_spanned(summed(freedom, own_rows), stairs), freedom)


def summed(times, rows):
    width = len(rows[0]) if rows else 0
    return [sum(time * row[at] for time, row in zip(times, rows)) for at in range(width)]


class Faults(unittest.TestCase):
    PIECES = ["(", ")", ",", "->", "truth", "num", "num[m]", "num[A.m^-2/s]", "list", "'a", "'b1", " ", "  ", "[m]"]
    WRONG = ["-", "'", "[", "]", "'aa", "A", "[m", "[x]", "word", "?", "\n", "[]", "((((((((((((((((((((("]

    def test_texts_with_one_piece_more_less_or_other(self):
        source = random.Random(16)
        seen = set()
        for turn in range(1500):
            pieces = re.findall(r"->|\[[^\]]*\]|'?[a-z0-9_]+| +|.", oracle.write(made_kind(source, 3)))
            for change in range(source.randrange(3)):
                at = source.randrange(len(pieces) + 1)
                pieces[at:at + source.randrange(3)] = source.choice([[], [source.choice(self.PIECES + self.WRONG)]])
            self.look_at("".join(pieces), seen)
        self.assertEqual(seen, {True, False})

    def test_pieces_in_any_order(self):
        source = random.Random(17)
        for turn in range(1500):
            pieces = [source.choice(self.PIECES * 4 + self.WRONG) for count in range(source.randrange(12))]
            self.look_at("".join(pieces), set())

    def test_every_short_row_of_tokens(self):
        for count in range(1, 5):
            for row in itertools.product(["(", ")", ",", "->", "truth", "num", "list", "[m]"], repeat=count):
                self.look_at(" ".join(row), set())

    def look_at(self, text, seen):
        place = oracle.first_wrong(text)
        seen.add(place is None)
        answer = fault(text, BASES)
        if place is not None:
            self.assertEqual(answer, [1, place], text)
            self.assertEqual(normal(text, BASES), -4, text)
        else:
            self.assertNotEqual(answer[0], 1, text)
            self.assertNotEqual(normal(text, BASES), -4, text)


if __name__ == "__main__":
    unittest.main()
