import unittest

from helper import ask, both, diff, drift, hunks, load, patch, script, undo
from linepatches.patches import answers


class Answers(unittest.TestCase):
    CALLS = (
        patch("a\n") + load("change b ;") + patch("a\n") + load("delete") + diff("a\n", "B\n")
        + script("a\n", "") + script("", "a\n") + diff("", "") + patch("a\n")
        + hunks("a\n", "") + drift("a\n", "", "a\nb\n") + drift("a\n", "", "b\n") + both("a\n", "b\n", "a\n")
        + load("if is a delete ;") + undo("a\nb\n") + undo("a\n") + both("", "", "B\n")
    )
    TOLD = [
        1, -1,
        2, 1, 1,
        7, 2, 2, 0, 1, 2, 1, 98,
        3, 0, 3, 6,
        1, -4,
        21, 1, 19, 105, 102, 32, 108, 105, 110, 101, 32, 49, 32, 100, 101, 108, 101, 116, 101, 32, 59, 10,
        1, -6,
        3, 0, 0, 0,
        7, 2, 2, 0, 1, 2, 1, 98,
        6, 1, 0, 0, 1, 0, 0,
        5, 1, 1, 2, 98, 10,
        2, 0, 0,
        4, 2, 2, 2, 0,
        2, 1, 1,
        23, 1, 21, 105, 102, 32, 108, 105, 110, 101, 32, 49, 32, 98, 101, 102, 111, 114, 101, 32, 97, 32, 59, 10,
        1, -6,
        1, -4,
    ]

    def test_several_calls_in_one_list(self):
        self.assertEqual(answers(list(self.CALLS)), self.TOLD)

    def test_what_is_handed_in_stays_the_same(self):
        calls = list(self.CALLS)
        answers(calls)
        self.assertEqual(calls, list(self.CALLS))

    def test_calling_twice_gives_the_same(self):
        self.assertEqual(answers(list(self.CALLS)), answers(list(self.CALLS)))

    def test_no_script_is_held_from_one_time_to_the_next(self):
        answers(load("change b ;"))
        self.assertEqual(answers(patch("a\n") + undo("a\n")), [1, -1, 1, -1])

    def test_a_list_is_given_back_anew_each_time(self):
        told = answers(list(self.CALLS))
        told.append(0)
        self.assertEqual(answers(list(self.CALLS)), self.TOLD)

    def test_whole_numbers_alone_are_given_back(self):
        told = answers(list(self.CALLS))
        self.assertIs(type(told), list)
        self.assertEqual({type(number) for number in told}, {int})

    def test_40_calls(self):
        told = ask(*[load("change b ;") if i % 2 == 0 else patch("a\n") for i in range(40)])
        self.assertEqual(told, [[1, 1], [2, 2, 0, 1, 2, 1, 98]] * 20)

    def test_the_longest_rows(self):
        self.assertEqual(ask(*[diff([255] * 8192, [0] * 8192)] * 4), [[-4]] * 4)
        self.assertEqual(ask(*[both([10] * 8192, [97] * 8192, [255] * 8192), drift([0] * 8192, "", [97] * 8192)]),
                         [[-4]] * 2)
        self.assertEqual(ask(load([10] * 8192), load([10] * 4096)), [[0, 1, 4096], [1, 0]])


if __name__ == "__main__":
    unittest.main()
