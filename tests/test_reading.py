"""Reading a kind text: its tokens, its rules, its limits, and its refusals in their order."""

import unittest

from support import APPLY, FREE, JOIN, MATCH, MEET, NORMAL, ORDER, SIZE, ask, held_row, normal, size

TWO_TEXTS = (MATCH, MEET, JOIN, ORDER, APPLY)

CAPITALS = "ABCDEFGHIJKLMNOPQRSTUVWXYZ"


def arrows(*kinds):
    return " -> ".join(kinds)


class Texts(unittest.TestCase):
    def test_every_item(self):
        for text in ["truth", "num", "num[m]", "num[A]", "'a", "list truth", "list list 'a", "(truth, num)",
                     "(truth -> num, list (num -> truth))", "'a -> 'b", "('a -> 'b) -> 'a"]:
            self.assertEqual(normal(text), text)

    def test_num_alone_and_num_of_nothing(self):
        for text in ["num", "num[1]", "num[1.1]", "num[1/1]", "num[m^0]", "num[A^0]", "num[m/m]", "num[m.m^-1]"]:
            self.assertEqual(normal(text), "num", text)

    def test_brackets_round_one_kind_mean_nothing(self):
        self.assertEqual(normal("((truth))"), "truth")
        self.assertEqual(normal("(truth -> (num -> 'a))"), "truth -> num -> 'a")
        self.assertEqual(normal("list(list(truth))"), "list list truth")

    def test_arrows_go_to_the_right(self):
        self.assertEqual(normal("'a -> 'b -> 'c"), normal("'a -> ('b -> 'c)"))
        self.assertNotEqual(normal("'a -> 'b -> 'c"), normal("('a -> 'b) -> 'c"))

    def test_a_list_is_of_one_item(self):
        self.assertEqual(normal("list truth -> num"), "list truth -> num")
        self.assertEqual(normal("list (truth -> num)"), "list (truth -> num)")
        self.assertEqual(normal("list list (truth) -> (num, list num) -> num"),
                         "list list truth -> (num, list num) -> num")

    def test_pairs_and_arrows_within_one_another(self):
        self.assertEqual(normal("((truth -> num, num) -> truth, truth) -> num"),
                         "((truth -> num, num) -> truth, truth) -> num")
        self.assertEqual(normal("(truth, (num, 'x -> 'y) -> 'x)"), "(truth, (num, 'a -> 'b) -> 'a)")
        self.assertEqual(normal("list (list (truth, 'b) -> list ('a, 'b), num)"),
                         "list (list (truth, 'a) -> list ('b, 'a), num)")
        self.assertEqual(normal("(('a -> 'b) -> 'c) -> 'd"), "(('a -> 'b) -> 'c) -> 'd")

    def test_blanks(self):
        self.assertEqual(normal("   truth   "), "truth")
        self.assertEqual(normal("  num   [m]  ->  (  list   'a ,'b )  "), "num[m] -> (list 'a, 'b)")
        self.assertEqual(normal("num[m]->(list'a,'b)"), "num[m] -> (list 'a, 'b)")
        self.assertEqual(normal("list(num)->list num[m]"), "list num -> list num[m]")

    def test_kind_variables(self):
        for text in ["'a", "'z", "'a0", "'q9", "'a10", "'a00"]:
            self.assertEqual(normal(text), "'a", text)
        self.assertEqual(normal("('a, ('a1, ('a01, ('a1, 'a))))"), "('a, ('b, ('c, ('b, 'a))))")

    def test_measure_variables(self):
        self.assertEqual(normal("num[A1] -> num[A01] -> num[A] -> num[A01]"),
                         "num[A] -> num[B] -> num[C] -> num[B]")
        self.assertEqual(normal("num[Z99]"), "num[A]")


class Measures(unittest.TestCase):
    def test_powers(self):
        for text, shown in [("m^2", "m^2"), ("m^-2", "m^-2"), ("m^1", "m"), ("m^001", "m"), ("m^-1", "m^-1"),
                            ("m^010", "m^10"), ("m^-007", "m^-7"), ("m.m.m", "m^3"), ("m^2.s.m^-5", "m^-3.s"),
                            ("s.m", "m.s"), ("1.m", "m"), ("m.1", "m"), ("m^999", "m^999"), ("m^-999", "m^-999")]:
            self.assertEqual(normal(f"num[{text}]"), f"num[{shown}]", text)

    def test_a_stroke_turns_the_one_factor_behind_it(self):
        for text, shown in [("m/s", "m.s^-1"), ("m/s^-2", "m.s^2"), ("1/m", "m^-1"), ("1/m.s", "m^-1.s"),
                            ("1/m/s", "m^-1.s^-1"), ("m/1.s", "m.s"), ("m^2/m", "m"), ("s/m^-999", "m^999.s")]:
            self.assertEqual(normal(f"num[{text}]"), f"num[{shown}]", text)

    def test_a_name_whose_powers_sum_to_0(self):
        self.assertEqual(normal("num[m^5.s.m^-5]"), "num[s]")
        self.assertEqual(normal("num[m^500.m^500/m^999.m^-1]"), "num")

    def test_no_measure_texts(self):
        for text in ["", " ", " m", "m ", "m. s", "m..s", ".m", "m.", "/m", "m/", "m//s", "m./s", "m/.s", "^", "^2",
                     "m^", "m^-", "m^--1", "m^+1", "m^1000", "m^-1000", "m^2^3", "m^A", "m^1.", "1^2", "1^1", "2",
                     "11", "10", "1m", "_m", "m-s", "m*s", "A100", "Ab", "AB", "A_", "A1b", "'a", "abcdefghijklm",
                     "m^1 ", "m^ 1", "[m", "(m)", "m,s"]:
            self.assertEqual(normal(f"num[{text}]"), -4, text)

    def test_a_base_name_of_twelve_signs(self):
        self.assertEqual(normal("num[abcdefghijkl^-12]", ["abcdefghijkl"]), "num[abcdefghijkl^-12]")
        self.assertEqual(normal("num[abcdefghijkl]"), -5)
        self.assertEqual(normal("num[abcdefghijklm]"), -4)

    def test_60_and_61_factors(self):
        self.assertEqual(normal("num[" + ".".join(["m"] * 60) + "]"), "num[m^60]")
        self.assertEqual(normal("num[" + ".".join(["m"] * 61) + "]"), -4)
        self.assertEqual(normal("num[" + "/".join(["1"] * 60) + "]"), "num")
        self.assertEqual(normal("num[" + "/".join(["1"] * 61) + "]"), -4)
        self.assertEqual(normal("num[" + "/".join(["m"] * 30 + ["1"] * 31) + "]"), -4)


class NoKindTexts(unittest.TestCase):
    def test_bad_tokens(self):
        for text in ["A", "truth A", "truth -", "truth - > num", "truth -num", "truth > num", "'", "' a", "'1", "'_",
                     "'A", "'aa", "'a_", "'a1b", "'a100", "'a123", "''a", "num[m", "num[mm", "num[m -> num", "num[",
                     "num]", "num[m]]", "num[m[]", "num[[m]]", "truth.", "truth\n", "\ttruth", "num[m]?", "truth;",
                     "num{m}", "^", "/", ".", "*", "num[?]", "truth -> ?", "?"]:
            self.assertEqual(normal(text), -4, text)

    def test_every_byte_before_a_text(self):
        for byte in range(256):
            wanted = "truth -> num" if byte == 32 else -4
            self.assertEqual(normal([byte] + [ord(sign) for sign in "truth -> num"]), wanted, byte)

    def test_every_byte_behind_a_text(self):
        for byte in range(256):
            wanted = "truth" if byte == 32 else -4
            self.assertEqual(normal([ord(sign) for sign in "truth"] + [byte]), wanted, byte)

    def test_every_byte_in_a_measure(self):
        good = [ord(sign) for sign in "abcdefghijklmnopqrstuvwxyz0123456789_"]
        for byte in range(256):
            wanted = -5 if byte in good else -4
            self.assertEqual(normal([ord(sign) for sign in "num[m"] + [byte] + [ord("]")]), wanted, byte)

    def test_other_words(self):
        for text in ["nums", "Truth", "truths", "listtruth", "lists truth", "num1", "num_", "1", "_", "a", "0",
                     "truth -> m", "list_ truth", "1truth"]:
            self.assertEqual(normal(text), -4, text)

    def test_tokens_that_can_not_stand_there(self):
        for text in ["", "    ", "truth truth", "truth num", "list", "list list", "list -> truth", "list , truth", "->",
                     "-> truth", "truth ->", "truth -> -> truth", ",", "truth, truth", "(", ")", "()", "(truth",
                     "truth)", "(truth))", "((truth)", "(truth,)", "(,truth)", "(truth, num, 'a)", "(truth -> )",
                     "(truth num)", "[m]", "truth[m]", "'a[m]", "'a [m]", "list [m]", "num[m][m]", "num[m] [s]",
                     "num (truth)", "(num)[m]", "list num[m] num", "'a 'a", "'a'b", "truth(num)", "(truth)(num)",
                     "list truth list truth", "(list, truth)", "(truth ->, num)", "num -> [m]"]:
            self.assertEqual(normal(text), -4, text)

    def test_40_and_41_openings(self):
        self.assertEqual(normal("(" * 40 + "truth" + ")" * 40), "truth")
        self.assertEqual(normal("(" * 41 + "truth" + ")" * 41), -4)
        self.assertEqual(normal(arrows(*["(truth)"] * 20)), arrows(*["truth"] * 20))
        self.assertEqual(normal(arrows(*["((truth))"] * 20)), arrows(*["truth"] * 20))
        self.assertEqual(normal("(" + arrows(*["((truth))"] * 20) + ")"), -4)

    def test_the_41st_opening_comes_ahead_of_the_other_limits(self):
        self.assertEqual(normal("(" * 41 + "num[x]" + ")" * 41), -4)
        self.assertEqual(normal(arrows(*["(truth)"] * 41)), -4)
        self.assertEqual(normal(arrows(*["(truth)"] * 40)), -6)

    def test_1000_and_1001_bytes(self):
        self.assertEqual(normal("truth" + " " * 995), "truth")
        self.assertEqual(normal("truth" + " " * 996), -4)
        self.assertEqual(normal(" " * 995 + "truth"), "truth")
        self.assertEqual(normal(" " * 996 + "truth"), -4)

    def test_10000_bytes(self):
        for text in [" " * 9995 + "truth", "(" * 10000, "list " * 2000, "truth" * 2000, [255] * 10000, "[" * 10000,
                     "'a->" * 2500, "num[" + "m." * 4997 + "m]"]:
            self.assertEqual(len(text), 10000)
            self.assertEqual(normal(text), -4)

    def test_1000_bytes_nested_as_deep_as_can_be(self):
        self.assertEqual(normal("list " * 199 + "truth"), -6)
        self.assertEqual(normal("list " * 199 + "list "), -4)
        self.assertEqual(normal("'a->" * 249 + "'a"), -6)
        self.assertEqual(normal("'a->" * 250), -4)
        self.assertEqual(normal("(" * 1000), -4)
        self.assertEqual(normal("[" * 1000), -4)


class Limits(unittest.TestCase):
    def test_unknown_bases(self):
        for text in ["num[x]", "num[m.x]", "num[m/x]", "num[x^0]", "num[x.x^-1]", "num[m] -> list (truth, num[x1])",
                     "num[ms]", "num[num]"]:
            self.assertEqual(normal(text), -5, text)
        self.assertEqual(normal("num[m]", []), -5)

    def test_40_and_41_parts(self):
        self.assertEqual(normal("list " * 39 + "truth"), "list " * 39 + "truth")
        self.assertEqual(normal("list " * 40 + "truth"), -6)
        self.assertEqual(normal(arrows(*["num"] * 19, "list num")), arrows(*["num"] * 19, "list num"))
        self.assertEqual(normal(arrows(*["num"] * 20)), arrows(*["num"] * 20))
        self.assertEqual(normal(arrows(*["num"] * 21)), -6)
        self.assertEqual(size(arrows(*["'a"] * 19, "list 'a")), [40, 1, 0])
        self.assertEqual(size(arrows(*["'a"] * 19, "list list 'a")), [-6])
        self.assertEqual(normal("(truth, " * 20 + "truth" + ")" * 20), -6)
        self.assertEqual(normal("(truth, " * 19 + "truth" + ")" * 19), "(truth, " * 19 + "truth" + ")" * 19)

    def test_26_and_27_measure_variables(self):
        many = ".".join(CAPITALS)
        self.assertEqual(size(f"num[{many}]"), [1, 0, 1])
        self.assertEqual(normal(f"num[{many}.A1]"), -6)
        self.assertEqual(normal(f"num[{many}] -> num[A1]"), -6)
        self.assertEqual(normal(f"num[{many}] -> num[Z^2]"), "num[A] -> num[B^2]")

    def test_measure_variables_count_whatever_their_power_is(self):
        many = ".".join(CAPITALS)
        self.assertEqual(normal(f"num[{many}.A1^0]"), -6)
        self.assertEqual(normal(f"num[{many}.A01/A01]"), -6)

    def test_powers_to_999_and_beyond(self):
        self.assertEqual(normal("num[m^998.m]"), "num[m^999]")
        self.assertEqual(normal("num[m^999.m]"), -7)
        self.assertEqual(normal("num[m^-998/m]"), "num[m^-999]")
        self.assertEqual(normal("num[m^-999/m]"), -7)
        self.assertEqual(normal("num[A^998.A]"), "num[A^999]")
        self.assertEqual(normal("num[A^999.A]"), -7)
        self.assertEqual(normal("num[A^-998/A]"), "num[A^999]")
        self.assertEqual(normal("num[A^-999/A]"), -7)

    def test_only_the_sum_of_the_powers_is_asked(self):
        self.assertEqual(normal("num[m^999.m^999.m^-999]"), "num[m^999]")
        self.assertEqual(normal("num[A^999.m.A^999/A^999.A^-999]"), "num[m]")
        self.assertEqual(normal("num[m^999] -> num[m^999]"), "num[m^999] -> num[m^999]")

    def test_the_order_of_the_refusals(self):
        many = ".".join(CAPITALS) + ".A1"
        deep = "list " * 40
        self.assertEqual(normal(f"num[x] -> num[{many}] -> num[m^999.m] ->"), -4)
        self.assertEqual(normal(f"num[m^999.m] -> num[{many}] -> num[x]"), -5)
        self.assertEqual(normal(f"num[m^999.m] -> {deep}num[x]"), -5)
        self.assertEqual(normal(f"num[m^999.m] -> num[{many}]"), -6)
        self.assertEqual(normal(f"num[m^999.m] -> {deep}truth"), -6)
        self.assertEqual(normal("num[m^999.m] -> truth"), -7)

    def test_every_call_reads_alike(self):
        for text, refusal in [("truth truth", -4), ("num[x]", -5), ("list " * 40 + "num", -6), ("num[A^999.A]", -7)]:
            self.assertEqual(ask(["m"], NORMAL, text), [refusal])
            self.assertEqual(ask(["m"], SIZE, text), [refusal])
            for number in TWO_TEXTS:
                self.assertEqual(ask(["m"], number, text, "truth"), [refusal])
                self.assertEqual(ask(["m"], number, "truth", text), [refusal])
            self.assertEqual(ask(["m"], FREE, text, []), [refusal])
            self.assertEqual(ask(["m"], FREE, "truth", held_row([text])), [refusal])

    def test_the_earlier_text_is_looked_at_before_the_later_one(self):
        wrong = [("", -4), ("num[x]", -5), ("list " * 40 + "num", -6), ("num[A^999.A]", -7)]
        for number in TWO_TEXTS:
            for one, refusal in wrong:
                for other, unused in wrong:
                    self.assertEqual(ask(["m"], number, one, other), [refusal])


if __name__ == "__main__":
    unittest.main()
