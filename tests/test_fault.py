"""Promise 10: fault."""

import unittest

from support import BASE, FAULT, NORMAL, ask_all, as_bytes, call, fault

CAPITALS = "ABCDEFGHIJKLMNOPQRSTUVWXYZ"
# What can stand at the beginning of an item, and all tokens.
ITEM = ["(", "truth", "num", "list", "'a"]
TOKENS = ITEM + [")", ",", "->", "[m]", "[1]", "word", "1", "_"]
# The beginnings of kind texts, and which tokens can stand behind each.
BEHIND = [("", ITEM), ("(", ITEM), ("((", ITEM), ("list", ITEM), ("list list", ITEM), ("truth ->", ITEM),
          ("(truth,", ITEM), ("(truth ->", ITEM), ("(list (", ITEM), ("num[m] ->", ITEM), ("(truth, num ->", ITEM),
          ("truth", ["->"]), ("'a", ["->"]), ("num[m]", ["->"]), ("num", ["->", "[m]", "[1]"]), ("list truth", ["->"]),
          ("list num", ["->", "[m]", "[1]"]), ("list num[m]", ["->"]), ("(truth)", ["->"]), ("(truth, num)", ["->"]),
          ("list (truth)", ["->"]), ("truth -> truth", ["->"]), ("truth -> num", ["->", "[m]", "[1]"]),
          ("(num)", ["->"]), ("((truth, num) -> truth)", ["->"]),
          ("(truth", ["->", ",", ")"]), ("(num", ["->", ",", ")", "[m]", "[1]"]), ("(num[m]", ["->", ",", ")"]),
          ("('a -> list 'b", ["->", ",", ")"]), ("((truth)", ["->", ",", ")"]), ("((truth, num)", ["->", ",", ")"]),
          ("list (list truth", ["->", ",", ")"]), ("(truth, (truth", ["->", ",", ")"]),
          ("(truth, num", ["->", ")", "[m]", "[1]"]), ("(truth, truth", ["->", ")"]),
          ("(truth, truth -> truth", ["->", ")"]), ("(truth, (truth, num)", ["->", ")"]),
          ("(truth, (truth)", ["->", ")"]), ("((truth, truth", ["->", ")"])]
WHOLE = ["truth", "'a", "num[m]", "num", "list truth", "list num", "list num[m]", "(truth)", "(truth, num)",
         "list (truth)", "truth -> truth", "truth -> num", "(num)", "((truth, num) -> truth)"]


class NoKindTexts(unittest.TestCase):
    def test_the_examples_of_the_document(self):
        self.assertEqual(fault("num[m", ["m"]), [1, 3])
        self.assertEqual(fault("list"), [1, 4])
        self.assertEqual(fault(""), [1, 0])
        self.assertEqual(fault("truth truth"), [1, 6])
        self.assertEqual(fault("(truth"), [1, 6])

    def test_the_first_token_that_can_not_stand_there(self):
        for start, good in BEHIND:
            for token in TOKENS:
                if token not in good:
                    for blanks in (1, 3):
                        text = " " + start + " " * blanks + token
                        self.assertEqual(fault(text), [1, len(text) - len(token)], text)
                        self.assertEqual(fault(text + " ->"), [1, len(text) - len(token)], text)
                        self.assertEqual(fault(text + " ?"), [1, len(text) - len(token)], text)

    def test_tokens_that_can_stand_there(self):
        for start, good in BEHIND:
            for token in good:
                text = f"{start} {token} ?"
                self.assertEqual(fault(text), [1, len(text) - 1], text)

    def test_texts_that_end_too_early(self):
        for start, unused in BEHIND:
            for blanks in (0, 1, 7):
                text = start + " " * blanks
                self.assertEqual(fault(text), [0, 0] if start in WHOLE else [1, len(text)], text)
                text = " " * blanks + start
                self.assertEqual(fault(text), [0, 0] if start in WHOLE else [1, len(text)], text)

    def test_bad_tokens(self):
        for token in ["-", "- >", "-)", "--", ">", "'", "' a", "'A", "'1", "'_", "'aa", "'a_", "'a1b", "'a100", "'list",
                      "''a", "A", "]", ".", "/", "^", "[", "[]", "[m", "[ m]", "[m ]", "[m.]", "[[m]]", "[m[s]",
                      "[m s]", "[m^1000]", "[1^2]", "[2]", "[A100]", "[m//s]", "[" + ".".join(["m"] * 61) + "]", "?",
                      "{", "\n", "\t", "\0", "\x7f", "\xff", "\xe4"]:
            for start in ["", "num", "truth", "truth -> num", "list", "(truth,", "num[m] ->", "(" * 40]:
                for blanks in (0, 1, 5):
                    text = start + " " * blanks + token
                    self.assertEqual(fault(text), [1, len(start) + blanks], text)
                    self.assertEqual(fault(text + " truth"), [1, len(start) + blanks], text)

    def test_every_byte(self):
        for byte in range(256):
            wanted = [0, 0] if byte == 32 else [1, 6]
            self.assertEqual(fault(as_bytes("truth ") + [byte]), wanted, byte)

    def test_words_and_kind_variables_are_longest_runs(self):
        self.assertEqual(fault("truth -> truths"), [1, 9])
        self.assertEqual(fault("listtruth"), [1, 0])
        self.assertEqual(fault("list num1"), [1, 5])
        self.assertEqual(fault("truth -> 'a12"), [0, 0])
        self.assertEqual(fault("truth -> 'a123"), [1, 9])
        self.assertEqual(fault("truth'a"), [1, 5])
        self.assertEqual(fault("numA"), [1, 3])
        self.assertEqual(fault("num[m][m]"), [1, 6])

    def test_the_41st_opening(self):
        self.assertEqual(fault("(" * 40 + "truth" + ")" * 40), [0, 0])
        self.assertEqual(fault("(" * 41 + "truth" + ")" * 41), [1, 40])
        self.assertEqual(fault("  " + "( " * 40 + "   (truth" + ")" * 41), [1, 85])
        self.assertEqual(fault("(truth)->" * 40 + "(truth)"), [1, 360])
        self.assertEqual(fault("(truth)->" * 40 + "truth"), [3, 0])
        self.assertEqual(fault("(" * 40), [1, 40])
        self.assertEqual(fault("(" * 1000), [1, 40])
        self.assertEqual(fault("(" * 39 + "truth (("), [1, 45])

    def test_an_earlier_token_comes_ahead_of_a_later_bad_one(self):
        self.assertEqual(fault("truth num[m"), [1, 6])
        self.assertEqual(fault("[m] ?"), [1, 0])
        self.assertEqual(fault("( ) " + "(" * 41), [1, 2])
        self.assertEqual(fault("num[m] [s] ?"), [1, 7])
        self.assertEqual(fault("(truth, num, ?"), [1, 11])

    def test_1000_bytes_and_more(self):
        self.assertEqual(fault(" " * 995 + "truth"), [0, 0])
        self.assertEqual(fault(" " * 996 + "truth"), [1, 1000])
        self.assertEqual(fault(" " * 1000), [1, 1000])
        self.assertEqual(fault(" " * 999), [1, 999])
        self.assertEqual(fault("?" + " " * 999), [1, 0])
        self.assertEqual(fault("?" + " " * 1000), [1, 1000])
        self.assertEqual(fault("truth" + " " * 995), [0, 0])
        self.assertEqual(fault("truth" + " " * 996), [1, 1000])
        self.assertEqual(fault("'a->" * 250), [1, 1000])
        self.assertEqual(fault("'a->" * 249 + "'a"), [3, 0])

    def test_10000_bytes(self):
        for text in [" " * 10000, "(" * 10000, "truth" * 2000, "list " * 2000, [255] * 10000, "'a->" * 2500]:
            self.assertEqual(fault(text), [1, 1000])


class OtherFaults(unittest.TestCase):
    def test_nothing_wrong(self):
        for text in ["truth", " num [m] ", "num[A^0.m^-999/s^999]", "'a -> list ('b, num[A])", "list " * 39 + "truth"]:
            self.assertEqual(fault(text), [0, 0], text)

    def test_an_unknown_base(self):
        self.assertEqual(fault("num[x]"), [2, 3])
        self.assertEqual(fault("num  [m.s/x^0]"), [2, 5])
        self.assertEqual(fault("  num[x]"), [2, 5])
        self.assertEqual(fault("num[m]", []), [2, 3])
        self.assertEqual(fault("num[m]", ["s"]), [2, 3])
        self.assertEqual(fault("num[m]", ["m"]), [0, 0])

    def test_the_first_measure_with_an_unknown_base(self):
        self.assertEqual(fault("num[m] -> num[x] -> num[y]"), [2, 13])
        self.assertEqual(fault("num -> (num[A], list num[s.y]) -> num[x]"), [2, 24])
        self.assertEqual(fault("num[y] -> num[x] -> num[y]"), [2, 3])
        self.assertEqual(fault("num[m] -> num -> num[A.m] -> num[m.x]"), [2, 32])
        self.assertEqual(fault("num[x] -> num[m]", ["x"]), [2, 13])

    def test_too_many_parts(self):
        self.assertEqual(fault("list " * 39 + "truth"), [0, 0])
        self.assertEqual(fault("list " * 40 + "truth"), [3, 0])

    def test_too_many_measure_variables(self):
        many = ".".join(CAPITALS)
        self.assertEqual(fault(f"num[{many}]"), [0, 0])
        self.assertEqual(fault(f"num[{many}.A1]"), [3, 0])
        self.assertEqual(fault(f"num[{many}] -> num[Z01^0]"), [3, 0])

    def test_a_power_that_is_too_far(self):
        for name in ["m", "A"]:
            self.assertEqual(fault(f"num[{name}^999]"), [0, 0])
            self.assertEqual(fault(f"num[{name}^999.{name}]"), [4, 0])
            self.assertEqual(fault(f"truth -> num[{name}^-999/{name}]"), [4, 0])
            self.assertEqual(fault(f"num[{name}^999.{name}/{name}]"), [0, 0])

    def test_a_normal_form_that_is_too_far_is_no_fault(self):
        self.assertEqual(fault("num[A.m^999] -> num[A^999]"), [0, 0])

    def test_which_comes_first(self):
        far, unknown, large = "num[m^999.m]", "num[x]", "list " * 40 + "truth"
        self.assertEqual(fault(f"{far} -> {unknown} -> {large} ?"), [1, 232])
        self.assertEqual(fault(f"{far} -> {unknown} -> {large}"), [2, 19])
        self.assertEqual(fault(f"{far} -> {large} -> {unknown}"), [2, 228])
        self.assertEqual(fault(f"{far} -> {large}"), [3, 0])
        self.assertEqual(fault(f"{far} -> truth"), [4, 0])
        text = f"{far} -> {unknown} -> {large} ?"
        self.assertEqual(fault(text + " " * (1001 - len(text))), [1, 1000])

    def test_it_changes_nothing_and_sees_the_bases_before_it(self):
        given = ask_all(call(FAULT, "num[m]"), call(BASE, "m"), call(FAULT, "num[m]"), call(FAULT, "num[s]"),
                        call(FAULT, "?"), call(NORMAL, "num[m]"), call(NORMAL, "num[s]"), call(BASE, "s"),
                        call(FAULT, "num[s]"))
        self.assertEqual(given, [[2, 3], [0], [0, 0], [2, 3], [1, 0], [0] + as_bytes("num[m]"), [-5], [0], [0, 0]])


if __name__ == "__main__":
    unittest.main()
