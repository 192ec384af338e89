import random
import unittest
from itertools import product

from helper import NOT_TEXTS, ask, ask_one, hunks, load, patch, plain_changes, text


class Hunks(unittest.TestCase):
    def told(self, first, second):
        """The changes told, five numbers each."""
        told = ask_one(hunks(text(*first), text(*second)))
        changes = [told[at:at + 5] for at in range(1, len(told), 5)]
        self.assertEqual(told[0], len(changes))
        self.assertTrue(all(len(change) == 5 for change in changes))
        return changes

    def test_worked_example(self):
        self.assertEqual(ask_one(hunks("a\nb\nc\n", "a\nx\nc\nd\n")), [2, 1, 1, 1, 1, 1, 3, 1, 0, 1, 0])

    def test_no_changes(self):
        self.assertEqual(self.told("", ""), [])
        self.assertEqual(self.told("abc", "abc"), [])
        self.assertEqual(self.told([""], [""]), [])

    def test_nothing_kept(self):
        self.assertEqual(self.told("", "abc"), [[0, 0, 0, 3, 0]])
        self.assertEqual(self.told("abc", ""), [[0, 0, 3, 0, 0]])
        self.assertEqual(self.told("abc", "xy"), [[0, 0, 3, 2, 0]])

    def test_lines_before(self):
        self.assertEqual(self.told("a", "ax"), [[1, 1, 0, 1, 0]])
        self.assertEqual(self.told("ab", "abx"), [[2, 2, 0, 1, 0]])
        self.assertEqual(self.told("abc", "abcx"), [[3, 2, 0, 1, 0]])

    def test_lines_behind(self):
        self.assertEqual(self.told("xa", "a"), [[0, 0, 1, 0, 1]])
        self.assertEqual(self.told("xab", "ab"), [[0, 0, 1, 0, 2]])
        self.assertEqual(self.told("xabc", "abc"), [[0, 0, 1, 0, 2]])

    def test_lines_between_two_changes_stand_at_both(self):
        self.assertEqual(self.told("xay", "a"), [[0, 0, 1, 0, 1], [2, 1, 1, 0, 0]])
        self.assertEqual(self.told("xaby", "ab"), [[0, 0, 1, 0, 2], [3, 2, 1, 0, 0]])
        self.assertEqual(self.told("xabcy", "abc"), [[0, 0, 1, 0, 2], [4, 2, 1, 0, 0]])

    def test_lines_around_end_at_the_next_change(self):
        self.assertEqual(self.told("abxcyde", "abcde"), [[2, 2, 1, 0, 1], [4, 1, 1, 0, 2]])

    def test_places_count_lines_of_the_first_text_alone(self):
        self.assertEqual(self.told("ab", "xxxxayyb"), [[0, 0, 0, 4, 1], [1, 1, 0, 2, 1]])
        self.assertEqual(self.told("xxxxayyb", "ab"), [[0, 0, 4, 0, 1], [5, 1, 2, 0, 1]])

    def test_a_change_is_as_long_as_can_be(self):
        self.assertEqual(self.told("axyb", "apqrb"), [[1, 1, 2, 3, 1]])

    def test_texts_at_their_bounds(self):
        self.assertEqual(self.told("a" * 24, ["b" * 16] * 24), [[0, 0, 24, 24, 0]])
        self.assertEqual(self.told("ab" * 12, "a" * 12),
                         [[1, 1, 1, 0, 1]] + [[at, 1, 1, 0, 1] for at in range(3, 23, 2)] + [[23, 1, 1, 0, 0]])

    def test_texts_not_told_right(self):
        for why, wrong in NOT_TEXTS.items():
            self.assertEqual(ask_one(hunks(wrong, "a\n")), [-4], why)
            self.assertEqual(ask_one(hunks("a\n", wrong)), [-4], why)

    def test_the_script_held_stays(self):
        told = ask(hunks("a\n", ""), load("delete ;"), hunks("", ""), hunks("A", ""), patch("a\n"))
        self.assertEqual(told, [[1, 0, 0, 1, 0, 0], [1, 1], [0], [-4], [1, 1, 0, 1]])


class HunksAgainstPlainSearch(unittest.TestCase):
    def compare(self, first, second):
        due = plain_changes(first, second)
        told = [len(due)] + [number for place, *rows in due for number in [place] + [len(row) for row in rows]]
        self.assertEqual(ask_one(hunks(text(*first), text(*second))), told, (first, second))

    def test_all_texts_of_few_lines(self):
        texts = [lines for size in range(5) for lines in product("ab", repeat=size)]
        for first in texts:
            for second in texts:
                self.compare(first, second)

    def test_longer_texts_by_chance(self):
        chance = random.Random(4)
        for turn in range(200):
            first = [chance.choice("abcd") for i in range(chance.randint(5, 9))]
            second = [chance.choice((line, "x")) for line in first if chance.random() < 0.8]
            self.compare(tuple(first), tuple(second))


if __name__ == "__main__":
    unittest.main()
