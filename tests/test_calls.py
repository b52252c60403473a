"""The interface: the list of calls that is handed in, and the list that is given back."""

import unittest

from support import (APPLY, BASE, FAULT, FREE, JOIN, MATCH, MEET, NORMAL, ORDER, SIZE, as_bytes, ask_all, call,
                     held_row, line)
from measurekinds.kinds import answers

LINE = [call(BASE, "m"), call(BASE, "m"), call(NORMAL, "num[A.B] -> num[A]"), call(SIZE, "'a -> num[A]"),
        call(MATCH, "num[A]", "num[m]"), call(MATCH, "truth", "num"), call(MEET, "num[A^2]", "num[B^3]"),
        call(MEET, "truth", "num"), call(MEET, "num[m]", "num"), call(NORMAL, "num[s]"), call(BASE, "s"),
        call(NORMAL, "num[s]"), call(MATCH, "truth", "truth"), call(JOIN, "num[m] -> truth", "num[s] -> truth"),
        call(JOIN, "truth", "?"), call(ORDER, "'a", "truth"), call(ORDER, "truth", "num"), call(ORDER, "'a", "num[t]"),
        call(APPLY, "num[A] -> num[A^2]", "num[s]"), call(APPLY, "truth", "num"), call(APPLY, "num -> num", "num[m]"),
        call(FREE, "num[A] -> num[B]", held_row(["num[A.B]"])), call(FREE, "num[A]", []),
        call(FREE, "truth", held_row(["truth"] * 11)), call(FREE, "'a -> 'b", held_row(["truth", "", "'a"])),
        call(FREE, "'a -> 'b", held_row(["truth", "'b", "'c"])), call(FAULT, "num[m"), call(FAULT, "num[t]"),
        call(FAULT, "truth"), call(BASE, "t"), call(FAULT, "num[t]")]
ANSWERS = [[0], [-2], [0] + as_bytes("num[A] -> num[B]"), [3, 1, 1], [1] + as_bytes("A=m"), [0],
           [0] + as_bytes("num[A^6]"), [-10], [-11], [-5], [0], [0] + as_bytes("num[s]"), [1],
           [0] + as_bytes("num[A] -> truth"), [-4], [1], [0], [-5], [0] + as_bytes("num[s^2]"), [-10], [-11],
           [0] + as_bytes("num[C] -> num[C^-1.A.B]"), [0] + as_bytes("num[B]"), [-13], [-4],
           [0] + as_bytes("'d -> 'b"), [1, 3], [2, 3], [0, 0], [0], [0, 0]]


def with_counts(given):
    return [number for answer in given for number in [len(answer)] + answer]


class Lists(unittest.TestCase):
    def test_a_count_before_each_answer(self):
        self.assertEqual(answers(line(*LINE)), with_counts(ANSWERS))
        self.assertEqual(answers([0, 1, 109]), [1, 0])
        self.assertEqual(answers([0, 0]), [1, -1])
        self.assertEqual(answers([1, 0]), [1, -4])
        self.assertEqual(answers([1, 3, 110, 117, 109]), [4, 0, 110, 117, 109])
        self.assertEqual(answers([2, 2, 39, 97]), [3, 1, 1, 0])
        self.assertEqual(answers([3, 2, 39, 97, 3, 110, 117, 109]), [7, 1, 39, 97, 61, 110, 117, 109])
        self.assertEqual(answers([4, 2, 39, 97, 3, 110, 117, 109]), [4, 0, 110, 117, 109])
        self.assertEqual(answers([3, 0, 0]), [1, -4])
        self.assertEqual(answers([5, 2, 39, 97, 3, 110, 117, 109]), [3, 0, 39, 97])
        self.assertEqual(answers([6, 2, 39, 97, 3, 110, 117, 109]), [1, 1])
        self.assertEqual(answers([7, 2, 39, 97, 3, 110, 117, 109]), [3, 0, 39, 97])
        self.assertEqual(answers([8, 2, 39, 97, 0]), [3, 0, 39, 98])
        self.assertEqual(answers([8, 2, 39, 97, 3, 2, 39, 97]), [3, 0, 39, 97])
        self.assertEqual(answers([8, 2, 39, 97, 7, 2, 39, 97, 3, 110, 117, 109]), [3, 0, 39, 97])
        self.assertEqual(answers([8, 2, 39, 97, 1, 0]), [1, -4])
        self.assertEqual(answers([9, 2, 39, 97]), [2, 0, 0])
        self.assertEqual(answers([9, 0]), [2, 1, 0])
        self.assertEqual(answers([9, 0, 9, 1, 39]), [2, 1, 0, 2, 1, 0])

    def test_each_call_sees_the_bases_before_it(self):
        text = "num[m.s]"
        given = ask_all(call(NORMAL, text), call(BASE, "s"), call(NORMAL, text), call(BASE, "m"), call(NORMAL, text))
        self.assertEqual(given, [[-5], [0], [-5], [0], [0] + as_bytes("num[s.m]")])

    def test_60_calls(self):
        calls = [call(BASE, "m")] + LINE[1:2] * 29 + [call(NORMAL, "num[m]")] * 30
        given = answers(line(*calls))
        self.assertEqual(given, with_counts([[0]] + [[-2]] * 29 + [[0] + as_bytes("num[m]")] * 30))

    def test_60_calls_of_all_sorts(self):
        self.assertEqual(sorted({one[0] for one in LINE}), list(range(10)))
        before, behind = call(FAULT, "num[m]"), call(NORMAL, "num[t.m]")
        rest = 60 - len(LINE)
        given = answers(line(*[before] * (rest - 5), *LINE, *[behind] * 5))
        self.assertEqual(given, with_counts([[2, 3]] * (rest - 5) + ANSWERS + [[0] + as_bytes("num[m.t]")] * 5))

    def test_only_base_changes_the_object(self):
        others = [one for one in LINE if one[0] != BASE]
        for number in range(1, 10):
            before = [one for one in others if one[0] == number]
            given = ask_all(call(BASE, "m"), *before, call(NORMAL, "num[s]"), call(NORMAL, "num[m]"))
            self.assertEqual(given[-2:], [[-5], [0] + as_bytes("num[m]")])

    def test_60_calls_of_the_longest_texts(self):
        places = [f"num[A^{at + 2}.B^{at * at % 97}/C^{at * 13 % 61}.D^{at % 7}.m^{at}/E^{at * 5 % 83}.F^{at * 3 % 71}]"
                  for at in range(20)]
        text = "->".join(places)
        text += " " * (1000 - len(text))
        calls = [call(BASE, "m")] + [call(MEET, text, text)] * 29 + [call(SIZE, text)] * 2
        self.assertLessEqual(len(line(*calls)), 62000)
        given = ask_all(*calls)
        self.assertEqual(given[-1], [39, 0, 6])
        self.assertEqual(given[1:30], [given[1]] * 29)

    def test_as_many_numbers_as_can_be(self):
        calls = [call(NORMAL, [255] * 10000)] * 3 + [call(MATCH, [40] * 10000, [0] * 10000)]
        self.assertLessEqual(len(line(*calls)), 62000)
        self.assertEqual(answers(line(*calls)), [1, -4] * 4)
        calls = [call(FREE, [255] * 10000, held_row([[255] * 10000, [255] * 9998])),
                 call(FREE, [40] * 10000, [0] * 20000)]
        self.assertLessEqual(len(line(*calls)), 62000)
        self.assertEqual(answers(line(*calls)), [1, -4, 1, -13])

    def test_what_is_handed_in_is_not_changed(self):
        handed = line(*LINE)
        kept = list(handed)
        answers(handed)
        self.assertEqual(handed, kept)

    def test_nothing_is_kept_from_one_time_to_the_next(self):
        handed = line(*LINE)
        first = answers(handed)
        self.assertEqual(answers(handed), first)
        self.assertEqual(answers(call(NORMAL, "num[m]")), [1, -5])
        self.assertEqual(answers(handed), first)

    def test_what_is_given_back_is_new_each_time(self):
        first = answers(line(*LINE))
        kept = list(first)
        first.clear()
        self.assertEqual(answers(line(*LINE)), kept)

    def test_only_whole_numbers_are_given_back(self):
        given = answers(line(*LINE))
        self.assertIs(type(given), list)
        for number in given:
            self.assertIs(type(number), int)


if __name__ == "__main__":
    unittest.main()
