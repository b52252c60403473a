"""Promise 5: meet."""

import unittest

from support import meet
from test_normal import text_of_length


class CommonInstances(unittest.TestCase):
    def both_ways(self, one, other, wanted):
        self.assertEqual(meet(one, other), wanted, (one, other))
        self.assertEqual(meet(other, one), wanted, (other, one))

    def test_the_same_kind(self):
        for text in ["truth", "num", "'a", "num[A^2.m] -> num[A^-1.m^2]", "'a -> (list 'b, num[A])"]:
            self.both_ways(text, text, text)

    def test_the_answer_is_in_normal_form(self):
        self.both_ways("'z", "'y -> num[C.D] -> 'x -> num[C]", "'a -> num[A] -> 'b -> num[B]")

    def test_kind_variables(self):
        self.both_ways("'a -> 'b", "truth -> 'c", "truth -> 'a")
        self.both_ways("'a -> list 'b", "list 'b -> 'a", "list 'a -> list 'b")
        self.both_ways("('a, truth)", "(num[m], 'a)", "(num[m], truth)")

    def test_kind_variables_more_than_once(self):
        self.both_ways("'a -> 'a", "truth -> 'b", "truth -> truth")
        self.both_ways("'a -> 'a -> 'b", "'x -> 'y -> 'x", "'a -> 'a -> 'a")
        self.both_ways("'a -> 'a", "(truth, 'b) -> ('c, num)", "(truth, num) -> (truth, num)")
        self.both_ways("'a -> 'a -> 'b -> 'b", "'x -> list 'y -> 'y -> 'z",
                       "list 'a -> list 'a -> 'a -> 'a")
        self.both_ways("('a, ('b, ('a, 'b)))", "(list 'x, ('x, ('y, truth)))",
                       "(list truth, (truth, (list truth, truth)))")

    def test_variables_of_the_same_name_have_nothing_to_do_with_one_another(self):
        self.both_ways("'a -> truth", "list 'a -> 'b", "list 'a -> truth")
        self.both_ways("num[A] -> num[B]", "num[B] -> num[A^2]", "num[A] -> num[B^2]")
        self.both_ways("num[A] -> num[m]", "num[A^2] -> num[A]", "num[m^2] -> num[m]")
        self.both_ways("num[A]", "num[A^2]", "num[A^2]")

    def test_measures_that_can_be_made_equal(self):
        self.both_ways("num[A]", "num[m]", "num[m]")
        self.both_ways("num[A^2]", "num[B^3]", "num[A^6]")
        self.both_ways("num[A^2.m]", "num[B^3]", "num[A^6.m^3]")
        self.both_ways("num[A] -> num[A]", "num[B^2] -> num[C^3]", "num[A^6] -> num[A^6]")
        self.both_ways("num[A] -> num[A^2]", "num[B] -> num[m^4]", "num[m^2] -> num[m^4]")
        self.both_ways("num[A] -> num[B] -> num[A.B]", "num[m] -> num[C] -> num[s]", "num[m] -> num[m^-1.s] -> num[s]")
        self.both_ways("num[A^2] -> num[B]", "num[C] -> num[C]", "num[A^2] -> num[A^2]")
        self.both_ways("num[A^4.B^6.m]", "num[m^3]", "num[m^3]")

    def test_kind_variables_more_than_once_with_measures(self):
        self.both_ways("'a -> 'a", "num[A^2] -> num[m^4]", "num[m^4] -> num[m^4]")
        self.both_ways("'a -> 'a -> 'a", "num[A.m] -> num[B^2] -> 'c", "num[A^2] -> num[A^2] -> num[A^2]")
        self.both_ways("'a -> 'a -> num[A]", "(num[A], 'b) -> (num[m], num[A.s]) -> num",
                       "(num[m], num[m.s]) -> (num[m], num[m.s]) -> num")
        self.both_ways("'a -> 'b -> 'a -> 'b", "num[A] -> num[A] -> num[B^2] -> num[B^3.m]",
                       "num[m^-2] -> num[m^-2] -> num[m^-2] -> num[m^-2]")

    def test_as_many_variables_as_can_be(self):
        one = " -> ".join(f"num[{name}]" for name in "ABCDEFGHIJKLMNOPQRST")
        other = " -> ".join(f"num[{name}^2]" for name in "TSRQPONMLKJIHGFEDCBA")
        wanted = " -> ".join(f"num[{name}^2]" for name in "ABCDEFGHIJKLMNOPQRST")
        self.both_ways(one, other, wanted)
        many = ".".join("ABCDEFGHIJKLMNOPQRSTUVWXYZ")
        self.both_ways(f"num[{many}]", f"num[{many}.m]", "num[A]")

    def test_40_parts(self):
        inner = "list " * 18 + "truth"
        self.both_ways("list ('a -> 'a)", f"list ({inner} -> 'b)", f"list ({inner} -> {inner})")
        self.both_ways("'a", "list " * 39 + "truth", "list " * 39 + "truth")


class NoCommonShape(unittest.TestCase):
    def refused(self, one, other):
        self.assertEqual(meet(one, other), -10, (one, other))
        self.assertEqual(meet(other, one), -10, (other, one))

    def test_other_shapes(self):
        for one, other in [("truth", "num"), ("truth", "list 'a"), ("num[A]", "'a -> 'b"), ("list 'a", "('a, 'b)"),
                           ("('a, 'b)", "'a -> 'b"), ("'a -> 'a", "truth -> num"), ("'a -> 'a", "truth -> list 'b"),
                           ("truth -> truth", "truth -> truth -> truth"), ("(truth, 'a)", "(num, 'a)")]:
            self.refused(one, other)

    def test_a_kind_variable_that_would_stand_within_itself(self):
        for one, other in [("'a -> 'a", "'b -> list 'b"), ("('a, 'a)", "('b, 'b -> truth)"),
                           ("'a -> 'b -> 'a", "'c -> 'c -> ('c, truth)"),
                           ("'a -> 'b -> 'a -> 'b", "list 'x -> list 'y -> 'y -> 'x"),
                           ("'a -> 'b -> 'a", "(num, 'y) -> 'y -> 'y")]:
            self.refused(one, other)

    def test_two_such_kind_variables_that_must_be_one(self):
        one = ["'a", "'a", "'b", "'b", "'a", "'b"]
        other = ["list 'x", "'x", "list 'y", "'y", "'z", "'z"]
        for turned in (1, -1):
            self.refused(" -> ".join(one[::turned]), " -> ".join(other[::turned]))

    def test_more_than_40_parts(self):
        inner = "list " * 19 + "truth"
        self.refused("'a -> 'a", f"{inner} -> 'b")
        self.refused("'a -> 'a -> 'a", f"'b -> 'c -> {'list ' * 12}truth")

    def test_far_more_than_40_parts(self):
        # Each pair is of two such as the pair behind it.
        one = "'a -> 'b -> 'c -> 'd -> 'e -> 'f -> 'g -> 'b -> 'c -> 'd -> 'e -> 'f -> 'g"
        other = ("('t, 't) -> ('u, 'u) -> ('v, 'v) -> ('w, 'w) -> ('x, 'x) -> ('y, 'y) -> 'z"
                 " -> 't -> 'u -> 'v -> 'w -> 'x -> 'y")
        self.refused(one, other)
        self.refused(f"num[m] -> {one}", f"num -> {other}")


class NoCommonMeasure(unittest.TestCase):
    def refused(self, one, other):
        self.assertEqual(meet(one, other), -11, (one, other))
        self.assertEqual(meet(other, one), -11, (other, one))

    def test_measures_that_can_not_be_made_equal(self):
        for one, other in [("num", "num[m]"), ("num[m]", "num[s]"), ("num[A^2]", "num[m]"), ("num[A^2]", "num[m^2.s]"),
                           ("num[A^2.m]", "num[B^2]"), ("num[A^4.B^6]", "num[m]"), ("num[A^2.m]", "num[B^4]"),
                           ("num[A] -> num[A]", "num[m] -> num[s]"), ("num[A] -> num[A^2]", "num[B] -> num[m]"),
                           ("num[A] -> num[A.m]", "num[B] -> num[B]"),
                           ("num[A.B] -> num[A/B]", "num[m] -> num")]:
            self.refused(one, other)

    def test_kind_variables_more_than_once(self):
        for one, other in [("'a -> 'a", "num[m] -> num[s]"), ("'a -> 'a", "num[A^2] -> num[m^3]"),
                           ("'a -> 'a", "num[A] -> num[A.m]"), ("'a -> 'b -> 'a -> 'b", "num[m] -> 'x -> 'x -> num"),
                           ("('a, list 'a)", "(num[A] -> num[A], list (num[m] -> num))")]:
            self.refused(one, other)

    def test_a_shape_is_looked_at_first(self):
        for one, other in [("num[m] -> truth", "num[s] -> list truth"), ("(truth, num[m])", "(list 'a, num[s])"),
                           ("num[m] -> 'a -> 'a", "num[s] -> 'b -> list 'b"),
                           ("num[m] -> 'a -> 'a", "num[s] -> 'b -> " + "list " * 18 + "truth")]:
            self.assertEqual(meet(one, other), -10, (one, other))
            self.assertEqual(meet(other, one), -10, (other, one))


class TooFar(unittest.TestCase):
    def test_a_power(self):
        self.assertEqual(meet("num[A^27]", "num[A^37]"), "num[A^999]")
        self.assertEqual(meet("num[A^25]", "num[A^40]"), "num[A^200]")
        self.assertEqual(meet("num[A^25]", "num[A^41]"), -7)
        self.assertEqual(meet("num[A] -> num[A^999]", "num[m] -> num[B]"), "num[m] -> num[m^999]")
        self.assertEqual(meet("num[A] -> num[A^999]", "num[m^2] -> num[B]"), -7)
        self.assertEqual(meet("num[A] -> num[A^-999]", "num[m^2] -> num[B]"), -7)

    def test_other_refusals_come_first(self):
        self.assertEqual(meet("(num[A^25], truth)", "(num[A^41], num)"), -10)
        self.assertEqual(meet("(num[A^25], num[m])", "(num[A^41], num[s])"), -11)
        self.assertEqual(meet("(num[A^25], num[m])", "(num[A^41], num[B])"), -7)

    def test_a_length_of_1000_and_1001(self):
        for length, too_far in [(998, False), (999, True)]:
            bases, text = text_of_length(length)
            self.assertEqual(meet("'a", text, bases), -7 if too_far else text.replace("->", " -> "))

    def test_far_numbers_on_the_way_do_no_harm(self):
        # The first place alone would have the power 999 * 998.
        self.assertEqual(meet("num[A^999] -> num[A]", "num[B^998] -> num"), "num -> num")


if __name__ == "__main__":
    unittest.main()
