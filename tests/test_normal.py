"""Promise 2: normal."""

import unittest

from support import normal

LONG_BASES = ["abcdefghij_" + digit for digit in "12345678"]


class Measures(unittest.TestCase):
    def test_the_examples_of_the_document(self):
        self.assertEqual(normal("num[A.B] -> num[A]"), "num[A] -> num[B]")
        self.assertEqual(normal("num[B^-2.m^3] -> num[B.m]"), "num[A^2.m] -> num[A^-1.m^2]")

    def test_other_kinds_that_mean_the_same(self):
        self.assertEqual(normal("num[m] -> num[s] -> num[m.s^-1]"), "num[m] -> num[s] -> num[m.s^-1]")
        self.assertEqual(normal("num[Q] -> num[Q^2]"), "num[A] -> num[A^2]")
        self.assertEqual(normal("num[A^-1]"), "num[A]")
        self.assertEqual(normal("num[A.m]"), "num[A]")
        self.assertEqual(normal("num[A^2.B^3]"), "num[A]")

    def test_pivots_are_the_greatest_that_divide(self):
        self.assertEqual(normal("num[A^4.B^6] -> num[A.B]"), "num[A^2] -> num[B]")
        self.assertEqual(normal("num[A^6.B^10.C^15]"), "num[A]")
        self.assertEqual(normal("num[A^4.B^6]"), "num[A^2]")

    def test_pivots_are_above_0(self):
        self.assertEqual(normal("num[A^-2] -> num[A]"), "num[A^2] -> num[A^-1]")
        self.assertEqual(normal("num -> num[B^-3.A^-3] -> num[A]"), "num -> num[A^3] -> num[B]")

    def test_homes_go_to_the_right(self):
        self.assertEqual(normal("num -> num[B] -> num[A] -> num[A.B]"), "num -> num[A] -> num[B] -> num[A.B]")
        self.assertEqual(normal("num[m] -> num[C] -> num[C] -> num[B]"), "num[m] -> num[A] -> num[A] -> num[B]")

    def test_earlier_variables_are_brought_down_in_later_homes(self):
        self.assertEqual(normal("num[A] -> num[A^-1.B^3]"), "num[A] -> num[A^2.B^3]")
        self.assertEqual(normal("num[A] -> num[A^3.B^3]"), "num[A] -> num[B^3]")
        self.assertEqual(normal("num[A^2.B] -> num[B^3]"), "num[A] -> num[A^3.B^6]")
        self.assertEqual(normal("num[A] -> num[A^5.B^2] -> num[A^7.B^3.C^4]"),
                         "num[A] -> num[A.B^2] -> num[A.B^3.C^4]")

    def test_bases_are_brought_down_in_homes(self):
        self.assertEqual(normal("num[A^3.m^-1] -> num[m]"), "num[A^3.m^2] -> num[m]")
        self.assertEqual(normal("num[A^3.m^3] -> num[A]"), "num[A^3] -> num[A.m^-1]")
        self.assertEqual(normal("num[A^2.m^5] -> num[A.B^3.m^5]"), "num[A^2.m] -> num[A.B^3]")
        self.assertEqual(normal("num[A^2.m^5.s^-5] -> num[A.s]"), "num[A^2.m.s] -> num[A.m^-2.s^4]")
        self.assertEqual(normal("num[m^7] -> num[A.m^7.s^2] -> num[m]"), "num[m^7] -> num[A] -> num[m]")

    def test_bases_stay_where_no_variable_is(self):
        self.assertEqual(normal("num[m^5] -> num[m^-5.s]"), "num[m^5] -> num[m^-5.s]")

    def test_variables_that_say_nothing_more_fall_away(self):
        self.assertEqual(normal("num[A.B] -> num[A.B]"), "num[A] -> num[A]")
        self.assertEqual(normal("num[A^0] -> num[m/m.C/C]"), "num -> num")
        self.assertEqual(normal("num[A^2.B^2.C] -> num[A^3.B^3.C^2]"), "num[A] -> num[B]")

    def test_places_are_told_from_left_to_right_through_all_parts(self):
        self.assertEqual(normal("(list num[C], (num[B] -> num[B.C]) -> num[A.C])"),
                         "(list num[A], (num[B] -> num[A.B]) -> num[C])")

    def test_twenty_variables_in_twenty_places(self):
        names = "ZYXWVUTSRQPONMLKJIHG"
        text = " -> ".join(f"num[{name}]" for name in names)
        self.assertEqual(normal(text), " -> ".join(f"num[{name}]" for name in "ABCDEFGHIJKLMNOPQRST"))

    def test_a_normal_form_is_its_own(self):
        for text in ["num[A^2.m] -> num[A^-1.m^2]", "num[A^6.m^3] -> 'a -> (num[B], 'a)", "list num"]:
            self.assertEqual(normal(text), text)


class Shapes(unittest.TestCase):
    def test_kind_variables_are_renamed_by_their_first_place(self):
        self.assertEqual(normal("'z -> 'b -> 'z -> 'a"), "'a -> 'b -> 'a -> 'c")
        self.assertEqual(normal("('b99, ('a, 'b99))"), "('a, ('b, 'a))")
        self.assertEqual(normal("'b -> 'a"), "'a -> 'b")

    def test_twenty_kind_variables(self):
        text = " -> ".join("'" + letter for letter in "zyxwvutsrqponmlkjihg")
        self.assertEqual(normal(text), " -> ".join("'" + letter for letter in "abcdefghijklmnopqrst"))

    def test_an_arrow_stands_in_brackets_left_of_an_arrow_and_in_a_list(self):
        for text in ["(truth -> num) -> truth", "list (truth -> num)", "list list (truth -> num)",
                     "((truth -> num) -> num) -> truth", "list (list (truth -> num) -> truth)"]:
            self.assertEqual(normal(text), text)

    def test_no_other_brackets_stand(self):
        self.assertEqual(normal("(truth) -> ((num) -> (list (truth)))"), "truth -> num -> list truth")
        self.assertEqual(normal("((truth -> num), (num -> truth))"), "(truth -> num, num -> truth)")
        self.assertEqual(normal("list ((truth, num))"), "list (truth, num)")
        self.assertEqual(normal("((truth, num)) -> truth"), "(truth, num) -> truth")
        self.assertEqual(normal("(list truth) -> truth"), "list truth -> truth")


class TooFar(unittest.TestCase):
    def test_a_power_of_a_base(self):
        self.assertEqual(normal("num[A.m] -> num[A^999]"), "num[A] -> num[A^999.m^-999]")
        self.assertEqual(normal("num[A.m] -> num[A^999/m]"), -7)
        self.assertEqual(normal("num[A/m] -> num[A^999]"), "num[A] -> num[A^999.m^999]")
        self.assertEqual(normal("num[A/m] -> num[A^999.m]"), -7)
        self.assertEqual(normal("num[A.m^999] -> num[A^999]"), -7)

    def test_a_power_of_a_variable(self):
        self.assertEqual(normal("num[A^27.B] -> num[B^37]"), "num[A] -> num[A^37.B^999]")
        self.assertEqual(normal("num[A^40.B] -> num[B^25]"), -7)
        self.assertEqual(normal("num[A^999.B] -> num[B^999]"), -7)

    def test_numbers_of_very_many_digits(self):
        places = [f"num[A.m^999.B^{999 - at}.C^{at * at % 998}/D^{at * 7 + 1}.E^{at * 31 % 17}]" for at in range(20)]
        self.assertEqual(normal("->".join(places)), -7)

    def test_a_length(self):
        first = "num[A." + ".".join(LONG_BASES) + "]"
        text = first + "->num[A]" * 19
        self.assertLess(len(text), 1000)
        self.assertEqual(normal(text, LONG_BASES), -7)

    def test_a_length_of_1000_and_1001(self):
        # Shown with two bytes more than given, for the blanks round the arrow.
        for length, too_far in [(998, False), (999, True)]:
            bases, text = text_of_length(length)
            self.assertEqual(len(text), length)
            self.assertEqual(normal(text, bases), -7 if too_far else text.replace("->", " -> "))


def text_of_length(length):
    """Bases, and a kind text of this length that is its own normal form but for the blanks round one arrow."""
    for count in range(1, 8):
        place = "num[" + ".".join(f"{base}^-999" for base in LONG_BASES[:count]) + "]"
        for repeats in range(1, 18):
            for signs in range(1, 13):
                last = "z" * signs
                text = f"({place}, " * repeats + f"num[{last}]->num" + ")" * repeats
                if len(text) == length:
                    return LONG_BASES[:count] + [last], text
    raise AssertionError(f"no text of {length} bytes")


if __name__ == "__main__":
    unittest.main()
