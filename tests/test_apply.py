"""Promise 8: apply."""

import unittest

from support import APPLY, apply, ask
from test_normal import LONG_BASES


class Results(unittest.TestCase):
    def test_0_stands_before_the_text(self):
        self.assertEqual(ask([], APPLY, "num -> truth", "num"), [0] + [ord(sign) for sign in "truth"])

    def test_a_function_without_variables(self):
        self.assertEqual(apply("truth -> num[m]", "truth"), "num[m]")
        self.assertEqual(apply("num[m] -> num[s] -> num[m.s^-1]", "num[m]"), "num[s] -> num[m.s^-1]")
        self.assertEqual(apply("(truth -> num) -> list num", "truth -> num"), "list num")
        self.assertEqual(apply("(truth, num[m^2]) -> (num[s], truth)", "(truth, num[m.m])"), "(num[s], truth)")

    def test_a_function_with_variables(self):
        self.assertEqual(apply("num[A] -> num[A^2]", "num[m]"), "num[m^2]")
        self.assertEqual(apply("num[A] -> num[B] -> num[A.B]", "num[m]"), "num[A] -> num[A.m]")
        self.assertEqual(apply("'a -> list 'a", "num[s]"), "list num[s]")
        self.assertEqual(apply("'a -> 'b -> 'a", "truth"), "'a -> truth")
        self.assertEqual(apply("('a -> 'b) -> list 'a -> list 'b", "num[A] -> num[A^2]"),
                         "list num[A] -> list num[A^2]")
        self.assertEqual(apply("num[A^2] -> num[A]", "num[m^4.s^-2]"), "num[m^2.s^-1]")

    def test_an_argument_with_variables(self):
        self.assertEqual(apply("num[m] -> num[s]", "num[A]"), "num[s]")
        self.assertEqual(apply("num[m] -> truth", "'a"), "truth")
        self.assertEqual(apply("list truth -> num", "list 'x"), "num")
        self.assertEqual(apply("num[A^2] -> num[A]", "num[B^3]"), "num[A^3]")
        self.assertEqual(apply("(num[A], num[A]) -> num[A]", "(num[m], num[B])"), "num[m]")

    def test_variables_of_the_same_text_have_nothing_to_do_with_one_another(self):
        self.assertEqual(apply("'a -> 'b", "'a -> 'b"), "'a")
        self.assertEqual(apply("'a -> list 'a", "'a -> truth"), "list ('a -> truth)")
        self.assertEqual(apply("'a -> 'a", "list 'a"), "list 'a")
        self.assertEqual(apply("('a, 'b) -> 'a", "('b, list 'b)"), "'a")
        self.assertEqual(apply("num[A] -> num[A^2]", "num[A^3]"), "num[A^6]")
        self.assertEqual(apply("(num[A], num[B]) -> num[A]", "(num[B^2], num[A])"), "num[A^2]")

    def test_the_result_is_in_normal_form_by_itself(self):
        self.assertEqual(apply("num[A] -> num[B] -> num[C.B.A]", "num[m]"), "num[A] -> num[B]")
        self.assertEqual(apply("num[B] -> num[m.B^-1]", "num[A]"), "num[A]")
        self.assertEqual(apply("'a -> 'b -> 'c -> 'b", "truth"), "'a -> 'b -> 'a")
        self.assertEqual(apply("(num[A], num[B]) -> num[B^-2.m^3] -> num[B.m]", "(num[A], num[B])"),
                         "num[A^2.m] -> num[A^-1.m^2]")
        self.assertEqual(apply("'a -> 'b -> 'a", "'z"), "'a -> 'b")

    def test_a_function_that_is_a_kind_variable(self):
        for argument in ["truth", "num[A]", "'a", "'a -> num[m]", "list " * 37 + "truth"]:
            self.assertEqual(apply("'a", argument), "'a", argument)
            self.assertEqual(apply("'q17", argument), "'a", argument)

    def test_an_answer_that_is_a_kind_variable(self):
        self.assertEqual(apply("truth -> 'x", "truth"), "'a")
        self.assertEqual(apply("'x -> 'x", "'y"), "'a")
        self.assertEqual(apply("('a -> 'b) -> 'b", "'a"), "'a")
        self.assertEqual(apply("list 'b -> 'b", "list 'c"), "'a")

    def test_the_argument_learns_from_the_function_and_the_result_from_the_argument(self):
        self.assertEqual(apply("('a -> 'b) -> ('b -> 'c) -> 'a -> 'c", "num[A] -> list num[A^2]"),
                         "(list num[A^2] -> 'a) -> num[A] -> 'a")
        self.assertEqual(apply("('a, list 'a) -> 'a", "('x, list (truth, 'y))"), "(truth, 'a)")
        self.assertEqual(apply("(num[A^2], num[B]) -> num[A.B]", "(num[C.D], num[D^3])"), "num[A]")
        self.assertEqual(apply("(num[A], num[B]) -> num[A.B]", "(num[C], num[C^2])"), "num[A^3]")


class NoCommonShape(unittest.TestCase):
    def test_a_function_that_is_no_arrow(self):
        for function in ["truth", "num", "num[A]", "list 'a", "list ('a -> 'b)", "('a, 'b)", "('a -> 'b, 'c)"]:
            self.assertEqual(apply(function, "'x"), -10, function)

    def test_another_argument(self):
        for function, argument in [("truth -> truth", "num"), ("num -> truth", "truth"), ("list 'a -> 'a", "truth"),
                                   ("('a, 'a) -> 'a", "(truth, num)"), ("(truth -> 'a) -> 'a", "num -> truth"),
                                   ("truth -> truth", "truth -> truth")]:
            self.assertEqual(apply(function, argument), -10, (function, argument))

    def test_a_kind_variable_that_would_stand_within_itself(self):
        self.assertEqual(apply("('a -> 'a) -> truth", "'x -> list 'x"), -10)
        self.assertEqual(apply("('a, list 'a) -> truth", "('x, 'x)"), -10)

    def test_40_41_and_more_parts(self):
        for lists, wanted in [(37, "'a"), (38, -10), (39, -10)]:
            argument = "list " * lists + "truth"
            self.assertEqual(apply("'f", argument), wanted)
            self.assertEqual(apply("'x -> 'y", argument), wanted)
            self.assertEqual(apply("'x -> truth", argument), -10 if wanted == -10 else "truth")
        measure = "list " * 38 + "num"
        self.assertEqual(apply(measure, measure), -10)
        self.assertEqual(apply("'x -> truth", measure), -10)

    def test_a_common_instance_with_40_and_41_parts(self):
        self.assertEqual(apply("'a -> 'a", "list " * 18 + "truth"), "list " * 18 + "truth")
        self.assertEqual(apply("'a -> list 'a", "list " * 18 + "truth"), "list " * 19 + "truth")
        self.assertEqual(apply("'a -> list list 'a", "list " * 18 + "truth"), -10)
        self.assertEqual(apply("'a -> 'a", "list " * 19 + "truth"), -10)
        self.assertEqual(apply("'a -> truth", "list " * 37 + "truth"), "truth")
        self.assertEqual(apply("'a -> list truth", "list " * 37 + "truth"), -10)


class NoCommonMeasure(unittest.TestCase):
    def test_measures_that_can_not_be_made_equal(self):
        for function, argument in [("num[m] -> truth", "num[s]"), ("num -> truth", "num[m]"),
                                   ("num[A^2] -> num[A]", "num[m]"), ("num[A^2] -> num[A]", "num[m^2.s]"),
                                   ("('a, 'a) -> 'a", "(num[m], num[s])"), ("('a, num) -> 'a", "(truth, num[m])"),
                                   ("(num[A] -> num[A]) -> truth", "num[m] -> num[s]")]:
            self.assertEqual(apply(function, argument), -11, (function, argument))

    def test_a_shape_is_looked_at_first(self):
        self.assertEqual(apply("(num[m], truth) -> truth", "(num[s], num)"), -10)
        self.assertEqual(apply("(num[m], 'a) -> 'a", "(num[s], " + "list " * 17 + "truth)"), -11)
        self.assertEqual(apply("(num[m], 'a) -> 'a", "(num[s], " + "list " * 18 + "truth)"), -10)
        self.assertEqual(apply("(num[m], 'a) -> truth", "(num[s], " + "list " * 37 + "truth)"), -10)


class Refused(unittest.TestCase):
    def test_reading_one_and_then_the_other(self):
        wrong = [("truth truth", -4), ("num[x]", -5), ("list " * 40 + "num", -6), ("num[A^999.A]", -7)]
        for one, refusal in wrong:
            self.assertEqual(apply(one, "truth"), refusal)
            self.assertEqual(apply("truth", one), refusal)
            for other, unused in wrong:
                self.assertEqual(apply(one, other), refusal)

    def test_a_power_that_is_too_far(self):
        self.assertEqual(apply("num[A] -> num[A^999]", "num[m]"), "num[m^999]")
        self.assertEqual(apply("num[A] -> num[A^500]", "num[m^2]"), -7)
        self.assertEqual(apply("num[A] -> num[A^-500]", "num[m^2]"), -7)
        self.assertEqual(apply("num[A] -> num[A^333]", "num[B^3]"), "num[A^999]")
        self.assertEqual(apply("num[A] -> num[A^334]", "num[B^3]"), -7)

    def test_only_the_answer_is_asked(self):
        self.assertEqual(apply("(num[A], num[A^999]) -> num[A]", "(num[m^2], num[B])"), "num[m^2]")
        self.assertEqual(apply("num[A^25] -> truth", "num[B^41]"), "truth")

    def test_other_refusals_come_first(self):
        self.assertEqual(apply("(num[A], truth) -> num[A^999]", "(num[m^2], num)"), -10)
        self.assertEqual(apply("(num[A], num[m]) -> num[A^999]", "(num[m^2], num[s])"), -11)
        self.assertEqual(apply("(num[A], num[m]) -> num[A^999]", "(num[m^2], num[B])"), -7)

    def test_a_length_of_1000_and_1001(self):
        # The answer has the argument twice, and 4 or 9 bytes more.
        bases, text = argument_of_length(498)
        self.assertEqual(apply("'a -> ('a, 'a)", text, bases), f"({text}, {text})")
        bases, text = argument_of_length(496)
        self.assertEqual(apply("'a -> ('a, 'a)", text, bases), f"({text}, {text})")
        self.assertEqual(apply("'a -> ('a, list 'a)", text, bases), -7)
        bases, text = argument_of_length(499)
        self.assertEqual(apply("'a -> ('a, 'a)", text, bases), -7)


def argument_of_length(length):
    """Bases, and a text of this length that is shown as it is and has nine parts."""
    place = "num[" + ".".join(f"{base}^-999" for base in LONG_BASES[:7]) + "]"
    for count in range(1, 8):
        last = ".".join(f"{base}^-999" for base in LONG_BASES[:count])
        for name in ["z" * signs for signs in range(1, 13)]:
            for power in ["", "^-99"]:
                text = f"({place}, ({place}, ({place}, (num[{last}], num[{name}{power}]))))"
                if len(text) == length:
                    return LONG_BASES[:7] + [name], text
    raise AssertionError(f"no text of {length} bytes")


if __name__ == "__main__":
    unittest.main()
