"""Promise 7: order."""

import unittest

from support import ORDER, ask, order


class Orders(unittest.TestCase):
    def ordered(self, one, other, wanted):
        turned = {0: 0, 1: 2, 2: 1, 3: 3}
        self.assertEqual(order(one, other), wanted, (one, other))
        self.assertEqual(order(other, one), turned[wanted], (other, one))

    def test_the_number_alone(self):
        self.assertEqual(ask([], ORDER, "'a", "truth"), [1])
        self.assertEqual(ask([], ORDER, "truth", "'a"), [2])
        self.assertEqual(ask([], ORDER, "truth", "num"), [0])
        self.assertEqual(ask([], ORDER, "truth", "truth"), [3])

    def test_kinds_alike(self):
        for text in ["truth", "num[m.s^-2]", "'a", "num[A^2.m] -> 'a -> (num[A^-1.m^2], list 'b)"]:
            self.ordered(text, text, 3)

    def test_kinds_alike_that_are_written_otherwise(self):
        for one, other in [("num[A.B] -> num[A]", "num[A] -> num[B]"), ("'x -> 'y", "'b99->( 'a )"),
                           ("num[B^-2.m^3] -> num[B.m]", "num[A^2.m] -> num[A^-1.m^2]"), ("num[A]", "num[A.m^7/s]"),
                           ("num[A^4.B^6]", "num[A^2]"), ("num[A] -> num[A]", "num[A.B] -> num[B.A]"),
                           ("num[1]", "num"), ("num[A^0]", "num"), ("((truth, (list 'q)))", "(truth, list 'a)"),
                           ("'a -> ('b -> 'c)", "'c -> 'b -> 'a")]:
            self.ordered(one, other, 3)

    def test_the_second_is_an_instance_of_the_first_alone(self):
        for one, other in [("'a", "truth"), ("'a", "'a -> 'b"), ("'a -> 'b", "'a -> 'a"),
                           ("'a -> 'a", "truth -> truth"), ("num[A]", "num"), ("num[A]", "num[m]"),
                           ("num[A]", "num[A^2]"), ("num[A^2]", "num[A^4]"), ("num[A^2.m]", "num[m^3]"),
                           ("num[A] -> num[B]", "num[A] -> num[A]"),
                           ("num[A] -> num[B]", "num[m] -> num[s]"), ("'a -> 'a", "num[A] -> num[A]"),
                           ("'a -> num[A]", "num[B] -> num[B]"), ("list 'a", "list list 'a")]:
            self.ordered(one, other, 1)

    def test_neither_is_an_instance_of_the_other(self):
        for one, other in [("truth", "num"), ("list 'a", "('a, 'b)"), ("'a -> truth", "truth -> 'a"),
                           ("num[m]", "num[s]"), ("num[A^2]", "num[A^3]"), ("num[A^2]", "num[m]"),
                           ("num[A^2.m]", "num[A^2]"), ("num[A] -> num[A^2]", "num[A^2] -> num[A]"),
                           ("'a -> 'a -> truth", "'a -> 'b -> 'b"), ("num[A] -> num[m]", "num[m] -> num[A]"),
                           ("('a, num)", "('b, num[m])")]:
            self.ordered(one, other, 0)

    def test_normal_forms_that_could_not_be_shown(self):
        far = "num[A.m^999] -> num[A^999]"
        self.ordered(far, far, 3)
        self.ordered("num[A] -> num[B]", far, 1)
        self.ordered("num[A] -> num[A]", far, 0)


class Refused(unittest.TestCase):
    def test_reading_one_and_then_the_other(self):
        wrong = [("truth truth", -4), ("num[x]", -5), ("list " * 40 + "num", -6), ("num[A^999.A]", -7)]
        for one, refusal in wrong:
            self.assertEqual(order(one, "truth"), refusal)
            self.assertEqual(order("truth", one), refusal)
            for other, unused in wrong:
                self.assertEqual(order(one, other), refusal)


if __name__ == "__main__":
    unittest.main()
