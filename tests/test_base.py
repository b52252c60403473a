"""Promise 1: base."""

import unittest

from support import BASE, NORMAL, ask, ask_all, call, told

EIGHT = ["b1", "b2", "b3", "b4", "b5", "b6", "b7", "b8"]


def ask_bases(*names):
    return [answer for answer in ask_all(*[call(BASE, name) for name in names])]


class Taken(unittest.TestCase):
    def test_a_name_becomes_a_base(self):
        self.assertEqual(ask_bases("m"), [[0]])
        self.assertEqual(told(ask(["m"], NORMAL, "num[m]"), 0), "num[m]")

    def test_names_of_one_and_twelve_signs(self):
        self.assertEqual(ask_bases("a", "z", "abcdefghijkl", "z_0123456789"), [[0]] * 4)

    def test_words_of_kind_texts_may_be_base_names(self):
        bases = ["num", "list", "truth"]
        self.assertEqual(told(ask(bases, NORMAL, "num[num.list^2/truth]"), 0), "num[num.list^2.truth^-1]")

    def test_bases_stand_in_the_order_in_which_they_came(self):
        self.assertEqual(told(ask(["z", "m", "a"], NORMAL, "num[a.m.z]"), 0), "num[z.m.a]")

    def test_eight_bases(self):
        self.assertEqual(ask_bases(*EIGHT), [[0]] * 8)


class Refused(unittest.TestCase):
    def test_no_base_name(self):
        wrong = ["", "abcdefghijklm", "M", "Am", "1", "1m", "_m", "m s", " m", "m ", "m-", "m.", "m^2", "mA", "'a",
                 [109, 0], [255], [109, 200], [96], [123], [109, 123], [109, 58], [109, 47], [109, 94]]
        for name in wrong:
            self.assertEqual(ask_bases(name), [[-1]], name)

    def test_a_long_text_is_no_base_name(self):
        self.assertEqual(ask_bases("m" * 10000), [[-1]])

    def test_a_base_twice(self):
        self.assertEqual(ask_bases("m", "s", "m", "s"), [[0], [0], [-2], [-2]])

    def test_a_ninth_base(self):
        self.assertEqual(ask_bases(*EIGHT, "b9", "b9"), [[0]] * 8 + [[-3]] * 2)

    def test_which_comes_first(self):
        self.assertEqual(ask_bases(*EIGHT, "B", "b8", "b9"), [[0]] * 8 + [[-1], [-2], [-3]])

    def test_a_refusal_changes_nothing(self):
        calls = [call(BASE, "m"), call(BASE, "M"), call(BASE, "m"), call(BASE, "s")]
        given = ask_all(*calls, call(NORMAL, "num[s.m]"), call(NORMAL, "num[M1.b9]"))
        self.assertEqual(given[:4], [[0], [-1], [-2], [0]])
        self.assertEqual(told(given[4], 0), "num[m.s]")
        self.assertEqual(given[5], [-5])

    def test_a_ninth_base_is_not_kept(self):
        given = ask_all(*[call(BASE, name) for name in EIGHT], call(BASE, "b9"), call(NORMAL, "num[b9]"),
                        call(NORMAL, "num[b8]"))
        self.assertEqual(given[8:10], [[-3], [-5]])
        self.assertEqual(told(given[10], 0), "num[b8]")

    def test_other_calls_that_are_refused_change_nothing(self):
        given = ask_all(call(BASE, "m"), call(NORMAL, "num[s]"), call(NORMAL, "num["), call(NORMAL, "num[s]"),
                        call(NORMAL, "num[m]"))
        self.assertEqual(given[1:4], [[-5], [-4], [-5]])
        self.assertEqual(told(given[4], 0), "num[m]")


if __name__ == "__main__":
    unittest.main()
