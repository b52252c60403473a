"""Promise 3: size."""

import unittest

from support import size


class Sizes(unittest.TestCase):
    def test_parts(self):
        for text, parts in [("truth", 1), ("num[m]", 1), ("list truth", 2), ("(truth, num)", 3), ("truth -> num", 3),
                            ("((truth))", 1), ("list (truth -> list num)", 5), ("(num, num) -> num -> truth", 7)]:
            self.assertEqual(size(text), [parts, 0, 0], text)

    def test_kind_variables_are_counted_once_each(self):
        self.assertEqual(size("'a"), [1, 1, 0])
        self.assertEqual(size("'a -> 'b -> 'a"), [5, 2, 0])
        self.assertEqual(size("('a1, ('a01, list 'a1))"), [6, 2, 0])

    def test_measure_variables_are_those_of_the_normal_form(self):
        self.assertEqual(size("num[A]"), [1, 0, 1])
        self.assertEqual(size("num[A.B]"), [1, 0, 1])
        self.assertEqual(size("num[A.B] -> num[A.B]"), [3, 0, 1])
        self.assertEqual(size("num[A.B] -> num[A]"), [3, 0, 2])
        self.assertEqual(size("num[A^0] -> num[B/B]"), [3, 0, 0])
        self.assertEqual(size("num[A.B] -> num[B.C] -> num[A/C]"), [5, 0, 2])
        self.assertEqual(size("num[A^999.m] -> num[B]"), [3, 0, 2])

    def test_all_three(self):
        self.assertEqual(size("'a -> num[A.B] -> (list 'b, num[A])"), [8, 2, 2])
        self.assertEqual(size(" -> ".join(["'a -> num[A]"] * 10)), [39, 1, 1])

    def test_a_normal_form_that_could_not_be_shown(self):
        self.assertEqual(size("num[A.m^999] -> num[A^999]"), [3, 0, 1])

    def test_refusals(self):
        self.assertEqual(size(""), [-4])
        self.assertEqual(size("num[x]"), [-5])
        self.assertEqual(size("list " * 40 + "truth"), [-6])
        self.assertEqual(size("num[m^999.m]"), [-7])


if __name__ == "__main__":
    unittest.main()
