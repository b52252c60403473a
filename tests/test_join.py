"""Promise 6: join."""

import unittest

from support import JOIN, ask, join, normal
from test_normal import text_of_length


class LeastGeneral(unittest.TestCase):
    def both_ways(self, one, other, wanted):
        self.assertEqual(join(one, other), wanted, (one, other))
        self.assertEqual(join(other, one), wanted, (other, one))

    def test_the_examples_of_the_document(self):
        self.both_ways("num[m] -> num[m^2]", "num[s^3] -> num[s^6]", "num[A] -> num[A^2]")
        self.both_ways("num[m^2] -> truth", "num[m^-1] -> list truth", "num[A^3.m^2] -> 'a")

    def test_0_stands_before_the_text(self):
        self.assertEqual(ask([], JOIN, "truth", "truth"), [0] + [ord(sign) for sign in "truth"])

    def test_a_kind_with_itself(self):
        for text in ["truth", "num", "num[m^3.s]", "'a", "list (truth, num[m])", "'a -> 'b -> 'a", "num[A] -> num[A^2]",
                     "num[A^2.m] -> num[A^-1.m^2]", "num[A^4.m^3] -> ('a, list num[B^6.m])"]:
            self.both_ways(text, text, text)

    def test_a_kind_with_one_alike(self):
        for one, other in [("num[A.B] -> num[A]", "num[X] -> num[X^-1.Y.m]"), ("'a -> 'b", "'b -> 'a"),
                           ("num[B^-2.m^3] -> num[B.m]", "num[A^2.m] -> num[A^-1.m^2]")]:
            self.both_ways(one, other, normal(one))

    def test_kinds_built_otherwise(self):
        kinds = ["truth", "num", "list truth", "(truth, truth)", "truth -> truth"]
        for at, one in enumerate(kinds):
            for other in kinds[at + 1:]:
                self.both_ways(one, other, "'a")
                self.both_ways(f"list ({one})", f"list ({other})", "list 'a")
                self.both_ways(f"({one}, num[m])", f"({other}, num[m])", "('a, num[m])")

    def test_what_is_built_alike_stays(self):
        self.both_ways("list (truth -> num, truth)", "list (num -> num, truth)", "list ('a -> num, truth)")
        self.both_ways("(truth, list truth) -> num", "(truth, list num) -> num", "(truth, list 'a) -> num")
        self.both_ways("truth -> truth", "truth -> truth -> truth", "truth -> 'a")
        self.both_ways("(truth -> num) -> truth", "truth -> truth", "'a -> truth")

    def test_the_same_two_parts_have_one_kind_variable(self):
        self.both_ways("truth -> truth", "num -> num", "'a -> 'a")
        self.both_ways("(list num[m], (truth, list num[m]))", "(truth, (num, truth))", "('a, ('b, 'a))")
        self.both_ways("(truth -> num[m.s]) -> truth -> num[s.m^2/m]", "truth -> truth", "'a -> 'a")
        self.both_ways("((truth, num[m.s]), (truth, num[s.m^2/m]))", "(truth, truth)", "('a, 'a)")

    def test_other_two_parts_have_other_kind_variables(self):
        self.both_ways("truth -> truth", "num -> list num", "'a -> 'b")
        self.both_ways("(num[m], num[s])", "(truth, truth)", "('a, 'b)")
        self.both_ways("(num[A], (num[B], num[A]))", "(truth, (truth, truth))", "('a, ('b, 'a))")
        self.both_ways("(num[A], num[A^2])", "(truth, truth)", "('a, 'b)")
        self.both_ways("(num, num[A^0.m^0])", "(truth, truth)", "('a, 'a)")
        self.both_ways("('x, 'y)", "(truth, truth)", "('a, 'b)")

    def test_the_same_two_parts_in_the_other_order(self):
        self.both_ways("truth -> num", "num -> truth", "'a -> 'b")
        self.both_ways("(truth, (num, truth))", "(num, (truth, num))", "('a, ('b, 'a))")
        self.both_ways("('x, ('y, 'x))", "('y, ('x, 'y))", "('a, ('b, 'a))")

    def test_a_kind_variable_in_one(self):
        for other in ["truth", "num[m]", "list 'x", "'x -> 'x", "(truth, num)"]:
            self.both_ways("'a", other, "'a")
            self.both_ways("'x -> truth", f"({other}) -> truth", "'a -> truth")
        self.both_ways("'x -> 'x", "truth -> truth", "'a -> 'a")
        self.both_ways("'x -> 'x", "truth -> num", "'a -> 'b")
        self.both_ways("'x -> 'y", "truth -> truth", "'a -> 'b")

    def test_kind_variables_in_both(self):
        self.both_ways("'x -> 'x", "'y -> 'y", "'a -> 'a")
        self.both_ways("'x -> 'x", "'x -> 'y", "'a -> 'b")
        self.both_ways("('x, ('y, ('x, 'y)))", "('x, ('y, ('y, 'y)))", "('a, ('b, ('c, 'b)))")

    def test_kind_variables_of_the_same_text_have_nothing_to_do_with_one_another(self):
        self.both_ways("'a", "'a", "'a")
        self.both_ways("('b, ('a, 'a))", "('a, ('a, 'a))", "('a, ('b, 'b))")
        self.both_ways("'a -> list 'a", "'b -> list 'b", "'a -> list 'a")
        self.both_ways("('a, (truth, 'a))", "('a, ('a, 'a))", "('a, ('b, 'a))")

    def test_nums_without_variables(self):
        self.both_ways("num[m]", "num[m]", "num[m]")
        self.both_ways("num", "num[m]", "num[A]")
        self.both_ways("num[m]", "num[s]", "num[A]")
        self.both_ways("num[m]", "num[m^3]", "num[A^2.m]")
        self.both_ways("num[m^4]", "num[m^10]", "num[A^6.m^4]")
        self.both_ways("num[m^2.s]", "num[s.m^8]", "num[A^6.m^2.s]")
        self.both_ways("num[m^2.s^5]", "num[m^6.s^11]", "num[A^2.s]")
        self.both_ways("num[m] -> num[s]", "num[s] -> num[m]", "num[A] -> num[A^-1.m.s]")
        self.both_ways("num[m] -> num[m]", "num[m] -> num[s]", "num[m] -> num[A]")
        self.both_ways("num[m^2] -> num[m^3]", "num[s^2] -> num[s^3]", "num[A^2] -> num[A^3]")
        self.both_ways("num[m^2] -> num[m]", "num[m^4] -> num[m^5]", "num[A^2] -> num[A^4.m^-3]")

    def test_nums_with_variables(self):
        self.both_ways("num[A]", "num[m]", "num[A]")
        self.both_ways("num[A^2]", "num[m^2]", "num[A^2]")
        self.both_ways("num[A^4]", "num[B^6]", "num[A^2]")
        self.both_ways("num[A^2.m]", "num[m^5]", "num[A^2.m]")
        self.both_ways("num[A^2.m]", "num[m^4]", "num[A]")
        self.both_ways("num[A] -> num[A]", "num[m] -> num[m]", "num[A] -> num[A]")
        self.both_ways("num[A] -> num[A^2]", "num[m] -> num[m^3]", "num[A] -> num[B]")
        self.both_ways("num[A] -> num[A^3]", "num[m] -> num[m^5]", "num[A] -> num[A.B^2]")
        self.both_ways("num[A] -> num[A.m]", "num[B^2] -> num[B^2.m]", "num[A] -> num[A.m]")

    def test_measure_variables_of_the_same_text_have_nothing_to_do_with_one_another(self):
        self.both_ways("num[A] -> num[B]", "num[A] -> num[A]", "num[A] -> num[B]")
        self.both_ways("num[A] -> num[A^2] -> num[B]", "num[B] -> num[B^2] -> num[B]",
                       "num[A] -> num[A^2] -> num[B]")

    def test_places_that_are_passed_over(self):
        self.both_ways("(num[m], truth) -> num[s]", "truth -> num[s]", "'a -> num[s]")
        self.both_ways("(num[m] -> num[s]) -> list num[m] -> num[m]", "truth -> list num[m] -> num[s]",
                       "'a -> list num[m] -> num[A]")
        self.both_ways("num[A] -> (num[A^2], num[A^3])", "num[B^2] -> ((num, num), num[B^6])",
                       "num[A] -> ('a, num[A^3])")

    def test_as_many_variables_as_can_be(self):
        one = " -> ".join(f"num[{name}]" for name in "ABCDEFGHIJKLMNOPQRST")
        other = " -> ".join(f"num[{name}^2]" for name in "TSRQPONMLKJIHGFEDCBA")
        self.both_ways(one, other, one)
        many = ".".join(f"{name}^2" for name in "ABCDEFGHIJKLMNOPQRSTUVWXYZ")
        self.both_ways(f"num[{many}]", f"num[{many}.m]", "num[A]")
        self.both_ways(f"num[{many}]", f"num[{many}.m^2.s^4]", "num[A^2]")
        kinds = [f"'{name}" for name in "abcdefghijklmnopqrst"]
        self.both_ways(" -> ".join(kinds), " -> ".join(kinds[10:] + kinds[:10]), " -> ".join(kinds))
        self.both_ways(" -> ".join(["truth"] * 20), " -> ".join(["num"] * 20), " -> ".join(["'a"] * 20))

    def test_40_parts(self):
        deep = "list " * 39
        self.both_ways(f"{deep}truth", f"{deep}num", f"{deep}'a")
        self.both_ways(f"{deep}truth", "list num", "list 'a")


class Refused(unittest.TestCase):
    def test_reading_one_and_then_the_other(self):
        wrong = [("truth truth", -4), ("num[x]", -5), ("list " * 40 + "num", -6), ("num[A^999.A]", -7)]
        for one, refusal in wrong:
            self.assertEqual(join(one, "truth"), refusal)
            self.assertEqual(join("truth", one), refusal)
            for other, unused in wrong:
                self.assertEqual(join(one, other), refusal)

    def test_a_power_that_is_too_far(self):
        self.assertEqual(join("num[m] -> num[m^500]", "num -> num[m^-499]"), "num[A] -> num[A^999.m^-499]")
        self.assertEqual(join("num[m] -> num[m^500]", "num -> num[m^-500]"), -7)
        self.assertEqual(join("num[m^500]", "num[m^-499]"), "num[A^999.m^500]")
        self.assertEqual(join("num[m^500]", "num[m^-500]"), -7)
        self.assertEqual(join("num[A.m^999] -> num[A^999]", "num[A.m^999] -> num[A^999]"), -7)

    def test_only_the_answer_is_asked(self):
        self.assertEqual(join("num[A.m^999] -> num[A^999]", "num[A.m^999] -> num[B]"), "num[A] -> num[B]")
        self.assertEqual(join("num[A.m^999] -> num[A^999]", "truth"), "'a")
        self.assertEqual(join("(num[m^999], num[s])", "(num[m^-999], num)"), -7)
        self.assertEqual(join("(num[m^999], num[m])", "(num[m^-999], num)"), -7)
        self.assertEqual(join("(num[m^999], num[m])", "(truth, num)"), "('a, num[A])")

    def test_a_length_of_1000_and_1001(self):
        for length, too_far in [(998, False), (999, True)]:
            bases, text = text_of_length(length)
            self.assertEqual(join(text, text, bases), -7 if too_far else text.replace("->", " -> "))


if __name__ == "__main__":
    unittest.main()
