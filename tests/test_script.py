import random
import unittest

from helper import NOT_TEXTS, OWN_WORDS, ask, ask_one, commands_told, diff, load, outcome, patch, script, text


class Script(unittest.TestCase):
    def told(self, first, second):
        return commands_told(ask_one(script(text(*first), text(*second))))

    def test_worked_example(self):
        written = "if line 2 after x ;\nif line 2 delete ;\nif line 3 after d ;\n"
        self.assertEqual(ask_one(script("a\nb\nc\n", "a\nx\nc\nd\n")), [3, 59] + list(written.encode()))

    def test_no_command_for_the_same_text(self):
        self.assertEqual(ask_one(script("", "")), [0, 0])
        self.assertEqual(ask_one(script("a\n\n", "a\n\n")), [0, 0])

    def test_lines_put_in_before_the_first(self):
        self.assertEqual(self.told("a", "xya"), ["if line 1 before x ;", "if line 1 before y ;"])

    def test_lines_put_in_behind_one_that_is_taken_out(self):
        self.assertEqual(self.told("a", "xy"), ["if line 1 after x ;", "if line 1 after y ;", "if line 1 delete ;"])

    def test_lines_put_in_before_and_behind(self):
        self.assertEqual(self.told("ab", "xay"),
                         ["if line 1 before x ;", "if line 2 after y ;", "if line 2 delete ;"])

    def test_lines_moved(self):
        self.assertEqual(self.told("abca", "caab"),
                         ["if line 1 delete ;", "if line 2 delete ;", "if line 4 after a ;", "if line 4 after b ;"])
        self.assertEqual(self.told("abc", "cab"), ["if line 1 before c ;", "if line 3 delete ;"])

    def test_lines_taken_out(self):
        self.assertEqual(self.told("abc", ""), ["if line 1 delete ;", "if line 2 delete ;", "if line 3 delete ;"])
        self.assertEqual(self.told("abc", "b"), ["if line 1 delete ;", "if line 3 delete ;"])

    def test_numbers_of_two_digits(self):
        lines = list("abcdefghijklmnopqrstuvwx")
        self.assertEqual(self.told(lines, lines[:23] + ["zz"]), ["if line 24 after zz ;", "if line 24 delete ;"])

    def test_letters_of_a_line_put_in(self):
        self.assertEqual(self.told(["a"], ["a", ""]), -6)
        self.assertEqual(self.told(["a"], ["a", "b"]), ["if line 1 after b ;"])
        self.assertEqual(self.told(["a"], ["a", "b" * 8]), ["if line 1 after bbbbbbbb ;"])
        self.assertEqual(self.told(["a"], ["a", "b" * 9]), -6)
        self.assertEqual(self.told(["a"], ["a", "b" * 16]), -6)
        self.assertEqual(self.told(["a"], ["b" * 9, "a"]), -6)
        self.assertEqual(self.told(["a"], ["", "a"]), -6)

    def test_own_words_put_in(self):
        for word in OWN_WORDS:
            self.assertEqual(self.told(["a"], ["a", word]), -6, word)
            self.assertEqual(self.told(["a"], [word, "a"]), -6, word)
            self.assertEqual(self.told(["a"], ["a", "x" + word]), [f"if line 1 after x{word} ;"], word)

    def test_lines_kept_or_taken_out_may_be_any(self):
        lines = ["", "delete", "b" * 16, "if"]
        self.assertEqual(self.told(lines, lines[1:3] + ["c"]),
                         ["if line 1 delete ;", "if line 4 after c ;", "if line 4 delete ;"])
        self.assertEqual(self.told(["none", ""], ["none"]), ["if line 2 delete ;"])

    def test_lines_put_in_where_the_first_text_has_none(self):
        self.assertEqual(self.told([], ["a"]), -6)
        self.assertEqual(self.told([], [""]), -6)
        self.assertEqual(self.told([""], ["a"]), ["if line 1 after a ;", "if line 1 delete ;"])

    def test_16_and_17_commands(self):
        self.assertEqual(len(self.told("a", ["a"] + ["b"] * 16)), 16)
        self.assertEqual(self.told("a", ["a"] + ["b"] * 17), -6)
        self.assertEqual(len(self.told("a" * 16, "")), 16)
        self.assertEqual(self.told("a" * 17, ""), -6)
        self.assertEqual(len(self.told("a" * 8, "b" * 8)), 16)
        self.assertEqual(self.told("a" * 8, "b" * 9), -6)
        self.assertEqual(self.told("a" * 9, "b" * 8), -6)

    def test_texts_not_told_right(self):
        for why, wrong in NOT_TEXTS.items():
            self.assertEqual(ask_one(script(wrong, "a\n")), [-4], why)
            self.assertEqual(ask_one(script("a\n", wrong)), [-4], why)

    def test_the_texts_are_looked_at_before_the_script(self):
        self.assertEqual(ask_one(script("", "a\nB\n")), [-4])

    def test_the_script_held_is_not_another_then(self):
        told = ask(load("change b ;"), script("a\n", "c\n"), script("", "a\n"), patch("a\n"))
        self.assertEqual(told[2:], [[-6], [2, 2, 0, 1, 2, 1, 98]])


class ScriptThenRun(unittest.TestCase):
    def test_a_script_told_makes_the_second_text(self):
        chance = random.Random(3)
        told_scripts = 0
        for turn in range(1500):
            words = chance.choice((["a", "b"], ["a", "bb", "ccc", "deleted"], ["x", "y", "", "stop"]))
            first, second = [[chance.choice(words) for i in range(chance.randint(0, 10))] for j in range(2)]
            marks = ask_one(diff(text(*first), text(*second)))
            told = ask_one(script(text(*first), text(*second)))
            if told != [-6]:
                told_scripts += 1
                self.assertEqual(told[0], marks[0])
                self.assertEqual(outcome(told[2:], *first), second)
            else:
                put_in = [word for word in ("", "stop") if second.count(word) > 0]
                self.assertTrue(marks[0] > 16 or not first or put_in, (first, second))
        self.assertGreater(told_scripts, 500)


if __name__ == "__main__":
    unittest.main()
