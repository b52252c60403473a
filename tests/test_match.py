"""Promise 4: match."""

import unittest

from support import MATCH, ask, match, normal
from test_normal import text_of_length


class Instances(unittest.TestCase):
    def test_the_example_of_the_document(self):
        self.assertEqual(match("num[B] -> 'c -> num[B]", "num[m.Q] -> list num[Q] -> num[Q.m]"),
                         "'a=list num[A.m^-1], A=A")

    def test_the_number_stands_before_the_text(self):
        self.assertEqual(ask(["m"], MATCH, "num[A]", "num[m]"), [1] + [ord(sign) for sign in "A=m"])

    def test_a_general_kind_without_variables(self):
        for text in ["truth", "num", "num[m^2]", "list (num[s] -> truth)"]:
            self.assertEqual(ask(["m", "s"], MATCH, text, f"({text})"), [1])

    def test_measures(self):
        self.assertEqual(match("num[A]", "num"), "A=1")
        self.assertEqual(match("num[A^2]", "num[m^4.s^-2]"), "A=m^2.s^-1")
        self.assertEqual(match("num[A^2.m]", "num[m^3]"), "A=m")
        self.assertEqual(match("num[A] -> num[A^2]", "num[m] -> num[m^2]"), "A=m")
        self.assertEqual(match("num[A] -> num[B]", "num[m] -> num[s]"), "A=m, B=s")
        self.assertEqual(match("num[A] -> num[B]", "num[C] -> num[C^2.m]"), "A=A, B=A^2.m")

    def test_the_substitution_is_between_the_normal_forms(self):
        self.assertEqual(match("num[A.B] -> num[A]", "num[m] -> num[s]"), "A=m, B=s")
        self.assertEqual(match("num[B^-2.m^3] -> num[B.m]", "num[m] -> num[m^2]"), "A=1")
        self.assertEqual(match("num[B^-2.m^3] -> num[B.m]", "num[C^2.m] -> num[m^2/C]"), "A=A")
        self.assertEqual(match("num[C]", "num[B^3.C^5]"), "A=A")

    def test_kind_variables(self):
        self.assertEqual(match("'a", "num[B.m] -> list num[B]"), "'a=num[A] -> list num[A.m^-1]")
        self.assertEqual(match("'x -> 'y", "truth -> num -> truth"), "'a=truth, 'b=num -> truth")
        self.assertEqual(match("'x -> 'y -> 'x", "list truth -> num -> list truth"), "'a=list truth, 'b=num")
        self.assertEqual(match("list 'a", "list (truth -> (num, 'q))"), "'a=truth -> (num, 'a)")

    def test_kind_variables_stand_before_measure_variables(self):
        self.assertEqual(match("num[A] -> 'a -> num[B] -> 'b", "num[m] -> num[s] -> num[m.s] -> truth"),
                         "'a=num[s], 'b=truth, A=m, B=m.s")

    def test_variables_of_the_same_name_have_nothing_to_do_with_one_another(self):
        self.assertEqual(match("'a -> 'b", "'b -> list 'b"), "'a='a, 'b=list 'a")
        self.assertEqual(match("'a", "'a -> 'a"), "'a='a -> 'a")
        self.assertEqual(match("num[A] -> num[B]", "num[B] -> num[A.B]"), "A=A, B=B")
        self.assertEqual(match("num[A]", "num[A^2]"), "A=A^2")
        self.assertEqual(match("num[A] -> num[B]", "num[A^2] -> num[A^3]"), "A=A^2, B=A^3")

    def test_places_within_a_kind_variable_are_passed_over(self):
        self.assertEqual(match("'a -> num[A] -> 'b -> num[A]", "(num[m], num[s]) -> num[s^2] -> num -> num[s^2]"),
                         "'a=(num[m], num[s]), 'b=num, A=s^2")
        self.assertEqual(match("num[A] -> ('a, num[B^2])", "num[B] -> (num[B^3] -> num, num[B^4])"),
                         "'a=num[A^3] -> num, A=A, B=A^2")

    def test_the_same_kind_variable_for_the_same_products(self):
        self.assertEqual(match("'a -> 'a", "num[A.B] -> num[B.A]"), "'a=num[A]")
        self.assertEqual(match("'a -> 'a -> num[B]", "num[A.B/B.m] -> num[m.A] -> num[A]"),
                         "'a=num[A], A=A.m^-1")

    def test_a_kind_is_an_instance_of_itself(self):
        text = "num[A^2.m] -> 'a -> (num[A^-1.m^2], list 'b)"
        self.assertEqual(match(text, text), "'a='a, 'b='b, A=A")


class NoInstances(unittest.TestCase):
    def test_0_alone(self):
        self.assertEqual(ask([], MATCH, "truth", "num"), [0])

    def test_other_shapes(self):
        for general, special in [("truth", "num"), ("num", "truth"), ("truth", "'a"), ("num[A]", "'a"),
                                 ("list 'a", "'a"), ("list 'a", "('a, 'b)"), ("'a -> 'b", "('a, 'b)"),
                                 ("('a, 'b)", "'a -> 'b"), ("list 'a", "truth"), ("truth", "list truth"),
                                 ("'a -> truth", "truth -> truth -> truth"), ("'a -> 'b -> 'c", "truth -> truth")]:
            self.assertIsNone(match(general, special), (general, special))

    def test_a_kind_variable_for_two_kinds(self):
        for general, special in [("'a -> 'a", "truth -> num"), ("'a -> 'a", "'a -> 'b"),
                                 ("'a -> 'a", "num[m] -> num[s]"), ("'a -> 'a", "num[A] -> num[B]"),
                                 ("'a -> 'a", "num[A] -> num[A^2]"), ("'a -> 'a", "num -> num[A]"),
                                 ("('a, 'a)", "(list num, list num[m])")]:
            self.assertIsNone(match(general, special), (general, special))

    def test_measures_that_can_not_be_had(self):
        for general, special in [("num", "num[m]"), ("num[m]", "num"), ("num[m]", "num[s]"), ("num[m]", "num[A]"),
                                 ("num[A^2]", "num[m]"), ("num[A^2]", "num[m^2.s]"), ("num[A^2]", "num[A^3]"),
                                 ("num[A^2.m]", "num"), ("num[A^2.m]", "num[m^2]"),
                                 ("num[A] -> num[A]", "num[m] -> num[s]"),
                                 ("num[A] -> num[A^2]", "num[m^2] -> num[m]"),
                                 ("num[A] -> num[A.m]", "num[A.m] -> num[A]"),
                                 ("num[A] -> num[B^2]", "num[m] -> num[m]"),
                                 ("num[A] -> num[A.B^2]", "num[m] -> num"),
                                 ("num[A] -> num[A^2]", "num[A] -> num[B]")]:
            self.assertIsNone(match(general, special), (general, special))

    def test_more_special_kinds_are_not_over_more_general_ones(self):
        self.assertEqual(match("num[A] -> num[B]", "num[A] -> num[A]"), "A=A, B=A")
        self.assertIsNone(match("num[A] -> num[A]", "num[A] -> num[B]"))


class TooFar(unittest.TestCase):
    # Its normal form has the power -998001 of m in the second place.
    FAR = "num[A.m^999] -> num[A^999]"

    def test_a_power(self):
        self.assertEqual(normal(self.FAR), -7)
        self.assertEqual(match("'a", self.FAR), -7)
        self.assertEqual(match("num[A] -> num[B]", self.FAR), -7)
        self.assertEqual(match("num[A] -> num[B]", "num[A.m] -> num[A^999]"), "A=A, B=A^999.m^-999")
        self.assertEqual(match("num[A] -> num[B]", "num[A.m] -> num[A^999/m]"), -7)

    def test_only_the_answer_is_asked(self):
        self.assertEqual(match(self.FAR, self.FAR), "A=A")
        self.assertEqual(match(f"'a -> {self.FAR}", f"num[m] -> {self.FAR}"), "'a=num[m], A=A")

    def test_no_instance_is_no_far_answer(self):
        self.assertIsNone(match("('a, truth)", f"({self.FAR}, num)"))
        self.assertIsNone(match("('a, num[A^2])", f"({self.FAR}, num[m])"))

    def test_a_length_of_1000_and_1001(self):
        # With 'a= before it and the two blanks round the arrow it is five bytes longer.
        for length, too_far in [(995, False), (996, True)]:
            bases, text = text_of_length(length)
            wanted = -7 if too_far else "'a=" + text.replace("->", " -> ")
            self.assertEqual(match("'a", text, bases), wanted)


if __name__ == "__main__":
    unittest.main()
