import random
import unittest
from itertools import product

from helper import NOT_TEXTS, ask, ask_one, diff, in_common, marks_told, patched, plain_patch, text


class Diff(unittest.TestCase):
    def told(self, first, second):
        return ask_one(diff(text(*first), text(*second)))

    def test_worked_example(self):
        self.assertEqual(self.told("abc", "axcd"), [3, 5, 2, 0, 1, 2, 1, 120, 0, 2, 1, 100])

    def test_the_same_text_twice(self):
        self.assertEqual(self.told("abc", "abc"), [0, 3, 3, 0, 0, 0])
        self.assertEqual(self.told(["", "", "a"], ["", "", "a"]), [0, 3, 3, 0, 0, 0])

    def test_empty_texts(self):
        self.assertEqual(self.told("", ""), [0, 0, 0])
        self.assertEqual(self.told("ab", ""), [2, 2, 0, 1, 1])
        self.assertEqual(self.told("", ["a", "bc"]), [2, 2, 0, 2, 1, 97, 2, 2, 98, 99])

    def test_a_line_without_letters_is_a_line(self):
        self.assertEqual(self.told([""], []), [1, 1, 0, 1])
        self.assertEqual(self.told([], [""]), [1, 1, 0, 2, 0])
        self.assertEqual(self.told(["a"], ["a", ""]), [1, 2, 1, 0, 2, 0])

    def test_lines_alike(self):
        self.assertEqual(self.told("aaa", "a"), [2, 3, 1, 0, 1, 1])
        self.assertEqual(self.told("a", "aaa"), [2, 3, 1, 0, 2, 1, 97, 2, 1, 97])
        self.assertEqual(self.told("aab", "ab"), [1, 3, 2, 0, 1, 0])

    def test_taking_out_comes_first_where_both_leave_as_much(self):
        self.assertEqual(self.told("a", "b"), [2, 2, 0, 1, 2, 1, 98])
        self.assertEqual(self.told("ab", "ba"), [2, 3, 1, 1, 0, 2, 1, 97])
        self.assertEqual(self.told("xa", "ya"), [2, 3, 1, 1, 2, 1, 121, 0])

    def test_putting_in_where_taking_out_leaves_less(self):
        self.assertEqual(self.told("abc", "cab"), [2, 4, 2, 2, 1, 99, 0, 0, 1])
        self.assertEqual(self.told("a", "ba"), [1, 2, 1, 2, 1, 98, 0])

    def test_lines_are_the_same_only_letter_by_letter(self):
        self.assertEqual(self.told(["ab"], ["a"]), [2, 2, 0, 1, 2, 1, 97])
        self.assertEqual(self.told(["a", "b"], ["ab"]), [3, 3, 0, 1, 1, 2, 2, 97, 98])

    def test_texts_at_their_bounds(self):
        longest = "abcdefghijklmnop"
        told = self.told(["q"] * 24, [longest] * 24)
        self.assertEqual(told[:3], [48, 48, 0])
        self.assertEqual(told[3:27], [1] * 24)
        self.assertEqual(told[27:], ([2, 16] + list(longest.encode())) * 24)
        self.assertEqual(self.told("z" * 24, "z" * 24), [0, 24, 24] + [0] * 24)

    def test_texts_not_told_right(self):
        for why, wrong in NOT_TEXTS.items():
            self.assertEqual(ask_one(diff(wrong, "a\n")), [-4], why)
            self.assertEqual(ask_one(diff("a\n", wrong)), [-4], why)
            self.assertEqual(ask_one(diff(wrong, wrong)), [-4], why)

    def test_each_byte_in_a_line(self):
        for byte in range(256):
            told = ask_one(diff([byte, 10], ""))
            if byte == 10:
                self.assertEqual(told, [2, 2, 0, 1, 1])
            else:
                self.assertEqual(told, [1, 1, 0, 1] if 97 <= byte <= 122 else [-4], byte)

    def test_no_script_is_asked_for(self):
        self.assertEqual(ask(diff("a\n", "a\n")), [[0, 1, 1, 0]])


class DiffAgainstPlainSearch(unittest.TestCase):
    def compare(self, first, second):
        told = ask_one(diff(text(*first), text(*second)))
        self.assertEqual(patched(first, told), list(second))
        cost, kept, marks = marks_told(told)
        self.assertEqual(cost, sum(mark != 0 for mark, line in marks))
        self.assertEqual(kept, sum(mark == 0 for mark, line in marks))
        self.assertEqual(cost, len(first) + len(second) - 2 * in_common(first, second))
        self.assertEqual(told, plain_patch(first, second))

    def test_all_small_texts_of_two_lines(self):
        texts = [lines for size in range(5) for lines in product("ab", repeat=size)]
        for first in texts:
            for second in texts:
                self.compare(first, second)

    def test_texts_of_a_few_lines_by_chance(self):
        chance = random.Random(1)
        for turn in range(300):
            sizes = chance.randint(0, 7), chance.randint(0, 7)
            lines = chance.choice((["a", "b", "c"], ["", "x", "xx", "y", "z"]))
            self.compare(*[tuple(chance.choice(lines) for i in range(size)) for size in sizes])

    def test_greater_texts_are_made(self):
        chance = random.Random(2)
        for turn in range(200):
            first, second = [[chance.choice("abcdef") for i in range(chance.randint(15, 24))] for j in range(2)]
            told = ask_one(diff(text(*first), text(*second)))
            self.assertEqual(patched(first, told), second)


if __name__ == "__main__":
    unittest.main()
