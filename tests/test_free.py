"""Promise 9: free."""

import unittest

from support import BASE, FREE, NORMAL, ask, ask_all, call, free, held_row
from test_normal import text_of_length

CAPITALS = "ABCDEFGHIJKLMNOPQRSTUVWXYZ"
LETTERS = "abcdefghijklmnopqrstuvwxyz"


def product(names):
    return ".".join(names)


class Measures(unittest.TestCase):
    def test_the_examples_of_the_document(self):
        self.assertEqual(free("num[A] -> num[B]", "num[A.B]"), "num[C] -> num[C^-1.A.B]")
        self.assertEqual(free("num[A] -> num[B]", "num[A]", "num[B]"), "num[A] -> num[B]")
        self.assertEqual(free("num[A] -> num[B]"), "num[C] -> num[D]")

    def test_0_stands_before_the_text(self):
        self.assertEqual(ask([], FREE, "truth", []), [0] + [ord(sign) for sign in "truth"])

    def test_nothing_held(self):
        self.assertEqual(free("num[A.B] -> num[A]"), "num[C] -> num[D]")
        self.assertEqual(free("num[B^-2.m^3] -> num[B.m]"), "num[A^2.m] -> num[A^-1.m^2]")
        self.assertEqual(free("num[m^2.s] -> truth"), "num[m^2.s] -> truth")
        self.assertEqual(free("num[A^4.B^6]"), "num[C^2]")

    def test_held_kinds_without_measure_variables(self):
        self.assertEqual(free("num[A]", "num[m] -> list num", "truth"), "num[B]")
        self.assertEqual(free("num[A]", "num[A^0]", "num[A/A]"), "num[B]")

    def test_all_held(self):
        for held in [["num[A]", "num[B]"], ["num[A] -> num[B]"], ["num[A.B] -> num[B]"], ["num[A^2]", "num[B^-3.m]"],
                     ["num[A.B]", "num[A.B^-1]"], ["(num[A.B], list num[A.B^2])"], ["num[A.B.m] -> num[A.B^3.s]"]]:
            self.assertEqual(free("num[A] -> num[B^2.m]", *held), "num[A] -> num[B^2.m]", held)

    def test_some_held(self):
        self.assertEqual(free("num[A] -> num[B]", "num[A]"), "num[A] -> num[C]")
        self.assertEqual(free("num[A] -> num[B]", "num[B]"), "num[C] -> num[B]")
        self.assertEqual(free("num[A] -> num[B]", "num[A.B^2]"), "num[C^2.A] -> num[C^-1.B]")
        self.assertEqual(free("num[A] -> num[B]", "num[A^2.B^4]"), "num[C^2.A] -> num[C^-1.B]")
        self.assertEqual(free("num[A] -> num[B]", "num[A^2.B^3]"), "num[C^3.A] -> num[C^-2.B]")
        self.assertEqual(free("num[A] -> num[B] -> num[C]", "num[A.B]", "num[B.C]"),
                         "num[D] -> num[D^-1.A.B] -> num[D.A^-1.C]")
        self.assertEqual(free("num[A] -> num[B] -> num[C]", "num[A.B.C]"),
                         "num[D] -> num[E] -> num[D^-1.E^-1.A.B.C]")

    def test_held_kinds_with_variables_of_their_own(self):
        self.assertEqual(free("num[A]", "num[A.B]"), "num[C]")
        self.assertEqual(free("num[A]", "num[A.B]", "num[B]"), "num[A]")
        self.assertEqual(free("num[A]", "num[A^3.B^6]"), "num[C^2.A]")
        self.assertEqual(free("num[A]", "num[A.B] -> num[B.C] -> num[C^2.D]"), "num[E]")
        self.assertEqual(free("num[m]", "num[A]"), "num[m]")

    def test_powers_are_brought_down_in_the_homes_of_new_variables(self):
        self.assertEqual(free("num[A^3.B^2] -> num[B]", "num[A]"), "num[C^2.A] -> num[C.A^-1]")
        self.assertEqual(free("num[A^-1.B^2] -> num[B]", "num[A]"), "num[C^2.A] -> num[C.A]")
        self.assertEqual(free("num[m^3.B^2] -> num[B]", "num[m]"), "num[A^2.m] -> num[A.m^-1]")
        self.assertEqual(free("num[m^5.s^-5.B^-2] -> num[B.A^4]", "num[A]"), "num[C^2.m.s] -> num[C^-1.A^4.m^2.s^-3]")
        self.assertEqual(free("num[B.A^9] -> num[B^3.C^5.A] -> num[A]", "num[A]"),
                         "num[D] -> num[D^3.E^5.A^4] -> num[A]")

    def test_pivots_are_above_0_and_homes_go_to_the_right(self):
        self.assertEqual(free("num[A] -> num[B^-2] -> num[C^-1.B]", "num[A]"), "num[A] -> num[D^2] -> num[E]")
        self.assertEqual(free("num[A] -> num[C^-1.A] -> num[B^-3.A]", "num[A]"), "num[A] -> num[D] -> num[E^3.A]")
        self.assertEqual(free("num[C] -> num[B] -> num[A]"), "num[D] -> num[E] -> num[F]")

    def test_variables_of_the_same_text_are_the_same(self):
        self.assertEqual(free("num[A1] -> num[A01]", "num[A1]"), "num[A1] -> num[A]")
        self.assertEqual(free("num[A1] -> num[A01]", "num[A01]"), "num[A] -> num[A01]")
        self.assertEqual(free("num[A]", "num[A1]"), "num[B]")


class NamesOfMeasures(unittest.TestCase):
    def test_names_in_the_kind_are_passed_over(self):
        self.assertEqual(free("num[A] -> num[C]"), "num[B] -> num[D]")
        self.assertEqual(free("num[B] -> num[C^0.B.B]"), "num[A] -> num[A^2]")
        self.assertEqual(free("num[B] -> num[A^0]"), "num[C] -> num")

    def test_names_in_held_kinds_are_passed_over(self):
        self.assertEqual(free("num[X] -> num[Y]", "num[A]", "num[C/B]"), "num[D] -> num[E]")
        self.assertEqual(free("num[X]", "truth -> num[B.A^0/A^0]"), "num[C]")

    def test_names_with_digits(self):
        self.assertEqual(free("num[A1] -> num[B2]"), "num[A] -> num[B]")
        self.assertEqual(free("num[A1]", f"num[{product(CAPITALS[:25])}]"), "num[Z]")
        self.assertEqual(free("num[A] -> num[B]", f"num[{product(CAPITALS[2:])}]"), "num[A1] -> num[B1]")
        self.assertEqual(free("num[A1] -> num[A]", f"num[{product(CAPITALS[1:25])}]"), "num[Z] -> num[B1]")
        self.assertEqual(free("num[C1] -> num[A1]", f"num[{product(CAPITALS[:24])}]"), "num[Y] -> num[Z]")
        self.assertEqual(free("num[C1] -> num[A1] -> num[Q]", f"num[{product(CAPITALS[:24])}]"),
                         "num[Y] -> num[Z] -> num[B1]")
        self.assertEqual(free("num[C1] -> num[A01] -> num[Q]", f"num[{product(CAPITALS[:24])}]"),
                         "num[Y] -> num[Z] -> num[A1]")

    def test_twenty_new_variables_behind_26(self):
        kind = " -> ".join(f"num[{name}]" for name in CAPITALS[:20])
        wanted = " -> ".join(f"num[{name}1]" for name in CAPITALS[:20])
        self.assertEqual(free(kind, f"num[{product(CAPITALS[20:])}]"), wanted)

    def test_the_order_in_which_variables_are_shown(self):
        self.assertEqual(free("num[A.B]", "num[B]", "num[A]"), "num[B.A]")
        self.assertEqual(free("num[A.B]", "num[A]", "num[B]"), "num[A.B]")
        self.assertEqual(free("num[A.B]", "num[B.A] -> num[A]"), "num[B.A]")
        self.assertEqual(free("num[C.B.A.s.m]", "num[B/C]", "num[A] -> num[C]"), "num[B.C.A.m.s]")
        self.assertEqual(free("num[s.A] -> num[m.s.A]", "num[A]", bases=("s", "m")), "num[A.s] -> num[A.s.m]")
        self.assertEqual(free("num[B.A] -> num[A^2.C.m]", "num[A]"), "num[D] -> num[E]")
        self.assertEqual(free("num[A^5.B^2.m^5] -> num[A.B.C^3]", "num[A]"), "num[D^2.A.m] -> num[D.E^3.A^2.m]")

    def test_variables_that_stand_with_the_power_0_only(self):
        self.assertEqual(free("num[A.B]", "num[B^0]", "num[A]", "num[B]"), "num[B.A]")
        self.assertEqual(free("num[A.B]", "num[m/B.B]", "num[A]", "num[B]"), "num[B.A]")
        self.assertEqual(free("num[B^0.A.B]", "num[A] -> num[B]"), "num[A.B]")
        self.assertEqual(free("num[A^2.B]", "num[A^2.B]", "num[B^0]"), "num[A^2.B]")
        self.assertEqual(free("num[A^2.B]", "num[B^0]", "num[A^2.B]"), "num[B.A^2]")
        self.assertEqual(free("num[B.A]", "num[C^0.A^0.B]", "num[A]"), "num[A.B]")


class KindVariables(unittest.TestCase):
    def test_nothing_held(self):
        self.assertEqual(free("'a"), "'b")
        self.assertEqual(free("'b"), "'a")
        self.assertEqual(free("'b -> 'a -> 'b"), "'c -> 'd -> 'c")
        self.assertEqual(free("'z -> list 'y"), "'a -> list 'b")

    def test_held_ones_stand_as_they_are(self):
        self.assertEqual(free("'a -> 'b -> 'a", "'b"), "'c -> 'b -> 'c")
        self.assertEqual(free("'b -> 'x -> 'a", "list 'a", "('b, truth)"), "'b -> 'c -> 'a")
        self.assertEqual(free("'x1 -> 'x01", "'x1"), "'x1 -> 'a")
        self.assertEqual(free("'q -> 'q", "('p, 'q -> 'p)"), "'q -> 'q")

    def test_names_in_any_of_the_texts_are_passed_over(self):
        self.assertEqual(free("'x -> 'y", "'a", "('c, 'b)"), "'d -> 'e")
        self.assertEqual(free("'x -> 'a -> 'y", "'b"), "'c -> 'd -> 'e")
        self.assertEqual(free("'x -> 'b", "'b", "'c"), "'a -> 'b")
        self.assertEqual(free("truth -> num", "'a"), "truth -> num")

    def test_past_z(self):
        held = [" -> ".join(f"'{letter}" for letter in part) for part in (LETTERS[:13], LETTERS[13:])]
        self.assertEqual(free("'x1 -> 'y1 -> 'x1", *held), "'a1 -> 'b1 -> 'a1")
        self.assertEqual(free("'x1 -> 'a1 -> 'b01", *held), "'b1 -> 'c1 -> 'd1")
        self.assertEqual(free("'m -> 'b -> 'a9", *held, "'a1"), "'m -> 'b -> 'b1")
        self.assertEqual(free("'q9 -> 'r9", *held[:1], " -> ".join(f"'{letter}" for letter in LETTERS[13:25])),
                         "'z -> 'a1")

    def test_past_z_more_than_once(self):
        names = [f"'{letter}{end}" for end in ["", *range(1, 9)] for letter in LETTERS]
        held = [" -> ".join(names[at:at + 20]) for at in range(0, 200, 20)]
        kind = " -> ".join(f"'{letter}99" for letter in LETTERS[:20])
        self.assertEqual(free(kind, *held), " -> ".join(names[200:220]))
        self.assertEqual(names[200], "'s7")
        self.assertEqual(names[208], "'a8")
        self.assertEqual(free("'c77", *held[:3], names[60]), "'j2")

    def test_kind_and_measure_variables(self):
        self.assertEqual(free("'a -> num[A] -> ('b, num[B])", "'b -> num[A.B]"),
                         "'c -> num[C] -> ('b, num[C^-1.A.B])")


class TheList(unittest.TestCase):
    def test_10_and_11_texts(self):
        self.assertEqual(free("num[A]", *["truth"] * 10), "num[B]")
        self.assertEqual(free("num[A]", *["truth"] * 9, "num[A]"), "num[A]")
        self.assertEqual(free("num[A]", *["truth"] * 11), -13)
        self.assertEqual(free("num[A]", *["num[A]"] * 10), "num[A]")

    def test_as_many_texts_as_can_be(self):
        self.assertEqual(ask([], FREE, "truth", [0] * 20000), [-13])
        self.assertEqual(ask([], FREE, "truth", held_row([[255] * 9999] * 2)), [-4])
        self.assertEqual(ask([], FREE, "truth", held_row(["truth" + " " * 995] * 10)), [0, 116, 114, 117, 116, 104])

    def test_texts_whose_bytes_look_like_counts(self):
        # Blanks are 32: a text of 32 bytes and more among them.
        texts = [" " * 32 + "num[A]", " " * 26 + "'b    ", "truth"]
        self.assertEqual(free("num[A] -> 'b -> 'c", *texts), "num[A] -> 'b -> 'a")

    def test_the_call_behind_it(self):
        given = ask_all(call(BASE, "m"), call(FREE, "num[A]", held_row(["num[A]", "'b"])), call(FREE, "'b", []),
                        call(NORMAL, "num[m]"))
        self.assertEqual(given, [[0], [0] + [ord(sign) for sign in "num[A]"], [0, 39, 97],
                                 [0] + [ord(sign) for sign in "num[m]"]])


class Refused(unittest.TestCase):
    WRONG = [("truth truth", -4), ("", -4), ("num[x]", -5), ("list " * 40 + "num", -6), ("num[A^999.A]", -7)]

    def test_more_than_10_texts_come_first(self):
        for text, unused in self.WRONG:
            self.assertEqual(free(text, *["truth"] * 11), -13)
            self.assertEqual(free("truth", *[text] * 11), -13)

    def test_the_kind_comes_ahead_of_the_held_ones(self):
        for text, refusal in self.WRONG:
            self.assertEqual(free(text), refusal)
            self.assertEqual(free(text, "truth"), refusal)
            for other, unused in self.WRONG:
                self.assertEqual(free(text, other, "truth"), refusal)

    def test_the_held_ones_text_by_text(self):
        for text, refusal in self.WRONG:
            self.assertEqual(free("truth", text), refusal)
            self.assertEqual(free("truth", *["truth"] * 9, text), refusal)
            for other, unused in self.WRONG:
                self.assertEqual(free("truth", "num", text, "truth", other), refusal)

    def test_26_and_27_measure_variables_together(self):
        names = list(CAPITALS) + ["A1"]
        self.assertEqual(free(f"num[{product(names[:13])}]", f"num[{product(names[13:26])}]"), "num[A1]")
        self.assertEqual(free(f"num[{product(names[:13])}]", f"num[{product(names[13:])}]"), -6)
        self.assertEqual(free("truth", f"num[{product(names[:13])}]", f"num[{product(names[13:26])}]"), "truth")
        self.assertEqual(free("truth", f"num[{product(names[:13])}]", f"num[{product(names[13:])}]"), -6)
        many = f"num[{product(names[:26])}]"
        self.assertEqual(free(many, many), many)
        self.assertEqual(free(many, "num[A1^0]"), -6)
        self.assertEqual(free(many, "num[A1/A1]", many), -6)

    def test_more_than_26_together_come_behind_all_reading(self):
        names = list(CAPITALS) + ["A1"]
        kind, held = f"num[{product(names[:13])}]", f"num[{product(names[13:])}]"
        for text, refusal in self.WRONG:
            self.assertEqual(free(kind, held, text), refusal)

    def test_a_power_that_is_too_far(self):
        self.assertEqual(free("num[A.B] -> num[B^999]", "num[A]"), "num[C] -> num[C^999.A^-999]")
        self.assertEqual(free("num[A.B] -> num[B^999/A]", "num[A]"), -7)
        self.assertEqual(free("num[m.B] -> num[B^999/m]", "num[A]"), -7)
        self.assertEqual(free("num[A] -> num[B]", "num[A.B^999]"), "num[C^999.A] -> num[C^-1.B]")
        self.assertEqual(free("num[A^2] -> num[B]", "num[A.B^499]"), "num[C^998.A^2] -> num[C^-1.B]")
        self.assertEqual(free("num[A^2] -> num[B]", "num[A.B^501]"), -7)

    def test_more_than_26_together_come_ahead_of_an_answer_that_is_too_far(self):
        self.assertEqual(free("num[A^2] -> num[B]", "num[A.B^501]", f"num[{product(CAPITALS)}]"), -7)
        self.assertEqual(free("num[A^2] -> num[B]", "num[A.B^501]", f"num[{product(CAPITALS[1:])}.A1]"), -6)

    def test_a_length_of_1000_and_1001(self):
        for length, too_far in [(998, False), (999, True)]:
            bases, text = text_of_length(length)
            self.assertEqual(free(text, "num[A]", bases=bases), -7 if too_far else text.replace("->", " -> "))


if __name__ == "__main__":
    unittest.main()
