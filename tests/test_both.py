import random
import unittest
from itertools import product

from helper import NOT_TEXTS, ask, ask_one, both, diff, in_common, load, patch, plain_marks, text
from linepatches.marks import cost_of, least_patch, one_behind_other, turned_round


def makes(marks, first, second):
    """Whether a patch made for the first lines makes the second ones, each line with its own mark."""
    gone_through = [line for mark, line in marks if mark != 2]
    come = [line for mark, line in marks if mark != 1]
    return gone_through == list(first) and come == list(second)


def kept_places(marks):
    """The places in the first and in the second text of the lines kept, in pairs."""
    pairs = []
    i = j = 0
    for mark, line in marks:
        if mark == 0:
            pairs.append((i, j))
        i += mark != 2
        j += mark != 1
    return pairs


class Both(unittest.TestCase):
    def told(self, *texts):
        return ask_one(both(*[text(*lines) for lines in texts]))

    def test_worked_example(self):
        self.assertEqual(ask_one(both("a\nb\nc\n", "a\nx\nc\nd\n", "a\nc\n")), [1, 3, 2, 1])

    def test_nothing_to_do(self):
        self.assertEqual(self.told("", "", ""), [0, 0, 0, 0])
        self.assertEqual(self.told("abc", "abc", "abc"), [0, 0, 0, 0])

    def test_one_alone(self):
        self.assertEqual(self.told("ab", "ab", "bc"), [2, 0, 2, 2])
        self.assertEqual(self.told("ab", "bc", "bc"), [2, 2, 0, 2])

    def test_taken_out_by_the_first_or_the_second(self):
        self.assertEqual(self.told("ab", "a", ""), [2, 1, 1, 2])
        self.assertEqual(self.told("ab", "b", ""), [2, 1, 1, 2])

    def test_put_in_by_the_first_or_the_second(self):
        self.assertEqual(self.told("", "a", "ab"), [2, 1, 1, 2])
        self.assertEqual(self.told("a", "ba", "bac"), [2, 1, 1, 2])

    def test_put_in_by_the_first_and_taken_out_by_the_second(self):
        self.assertEqual(self.told("", "abc", ""), [0, 3, 3, 0])
        self.assertEqual(self.told("a", "axyb", "ayb"), [2, 3, 1, 2])

    def test_taken_out_by_the_first_and_put_in_by_the_second(self):
        self.assertEqual(self.told("abc", "", "abc"), [6, 3, 3, 0])
        self.assertEqual(self.told("abc", "ac", "abc"), [2, 1, 1, 0])

    def test_other_lines_alike_are_kept_by_one_behind_the_other(self):
        self.assertEqual(self.told("ab", "ba", "ab"), [4, 2, 2, 0])

    def test_texts_at_their_bounds(self):
        self.assertEqual(self.told("a" * 24, "b" * 24, "c" * 24), [48, 48, 48, 48])
        self.assertEqual(self.told("a" * 24, ["b" * 16] * 24, "a" * 24), [48, 48, 48, 0])

    def test_texts_not_told_right(self):
        for why, wrong in NOT_TEXTS.items():
            self.assertEqual(ask_one(both(wrong, "", "a\n")), [-4], why)
            self.assertEqual(ask_one(both("a\n", wrong, "")), [-4], why)
            self.assertEqual(ask_one(both("", "a\n", wrong)), [-4], why)

    def test_the_script_held_stays(self):
        told = ask(both("", "", ""), load("delete ;"), both("a\n", "", ""), both("A", "", ""), patch("a\n"))
        self.assertEqual(told, [[0, 0, 0, 0], [1, 1], [1, 1, 0, 1], [-4], [1, 1, 0, 1]])


class BothAgainstPlainSearch(unittest.TestCase):
    def compare(self, *texts):
        first, second, third = texts
        left = {j for i, j in kept_places(plain_marks(first, second))}
        kept = [j for j, k in kept_places(plain_marks(second, third)) if j in left]
        costs = [len(a) + len(b) - 2 * in_common(a, b) for a, b in ((first, second), (second, third), (first, third))]
        self.assertEqual(ask_one(both(*[text(*lines) for lines in texts])),
                         [len(first) + len(third) - 2 * len(kept)] + costs, texts)

    def test_all_texts_of_few_lines(self):
        texts = [lines for size in range(4) for lines in product("ab", repeat=size)]
        for one in product(texts, repeat=3):
            self.compare(*one)

    def test_longer_texts_by_chance(self):
        chance = random.Random(5)
        for turn in range(200):
            self.compare(*[tuple(chance.choice("abc") for i in range(chance.randint(0, 7))) for j in range(3)])

    def test_costs_are_those_that_diff_tells(self):
        chance = random.Random(6)
        for turn in range(100):
            a, b, c = [text(*[chance.choice("abcde") for i in range(chance.randint(10, 24))]) for j in range(3)]
            told, *patches = ask(both(a, b, c), diff(a, b), diff(b, c), diff(a, c))
            self.assertEqual(told[1:], [one[0] for one in patches])
            self.assertLessEqual(told[3], told[0])
            self.assertLessEqual(told[0], told[1] + told[2])


class Patches(unittest.TestCase):
    """Patches turned round, and one behind the other, as lists of marks with their lines."""

    TEXTS = [list(lines) for size in range(4) for lines in product("ab", repeat=size)]

    def test_turned_round_makes_the_first_of_the_second(self):
        for first in self.TEXTS:
            for second in self.TEXTS:
                marks = least_patch(first, second)
                self.assertTrue(makes(turned_round(marks), second, first))
                self.assertEqual(turned_round(turned_round(marks)), marks)
                self.assertEqual(cost_of(turned_round(marks)), cost_of(marks))

    def test_marks_turned_round_stay_in_their_order(self):
        self.assertEqual(turned_round([(0, "a"), (1, "b"), (2, "c")]), [(0, "a"), (2, "b"), (1, "c")])

    def test_one_behind_the_other_makes_the_third_of_the_first(self):
        for first, second, third in product(self.TEXTS, repeat=3):
            marks = one_behind_other(least_patch(first, second), least_patch(second, third))
            self.assertTrue(makes(marks, first, third), (first, second, third))

    def test_a_patch_and_itself_turned_round_leave_what_is_kept(self):
        for first, second in product(self.TEXTS, repeat=2):
            marks = least_patch(first, second)
            forth_and_back = one_behind_other(marks, turned_round(marks))
            self.assertTrue(makes(forth_and_back, first, first))
            taken_out = [line for mark, line in marks if mark == 1]
            self.assertEqual(cost_of(forth_and_back), 2 * len(taken_out))

    def test_what_is_handed_in_stays_the_same(self):
        first, second = [(1, "a"), (2, "b")], [(0, "b"), (2, "c")]
        self.assertEqual(one_behind_other(first, second), [(1, "a"), (2, "b"), (2, "c")])
        self.assertEqual(turned_round(first), [(2, "a"), (1, "b")])
        self.assertEqual((first, second), ([(1, "a"), (2, "b")], [(0, "b"), (2, "c")]))


if __name__ == "__main__":
    unittest.main()
