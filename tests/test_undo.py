import random
import unittest

from helper import NOT_TEXTS, OWN_WORDS, ask, ask_one, commands_told, load, outcome, patch, text, undo
from linepatches.runs import result_of
from linepatches.scripts import commands_of


class Undo(unittest.TestCase):
    def told(self, source, lines):
        """The commands that undo a run of a script over lines, or the refusal's number."""
        loaded, told = ask(load(source), undo(text(*lines)))
        self.assertEqual(loaded[0], 1, source)
        return commands_told(told)

    def test_worked_example(self):
        written = "if line 1 after b ;\nif line 2 delete ;\n"
        told = ask_one(load("if is b change x ;"), undo("a\nb\nc\n"))
        self.assertEqual(told, [2, 39] + list(written.encode()))

    def test_nothing_to_undo(self):
        self.assertEqual(ask_one(load("change b ;"), undo("")), [0, 0])
        self.assertEqual(ask_one(load(""), undo("a\n\ndelete\n")), [0, 0])
        self.assertEqual(ask_one(load("delete ;"), undo("")), [0, 0])
        self.assertEqual(ask_one(load("keep ; change b ; trade ;"), undo("a\n")), [0, 0])

    def test_lines_that_the_run_put_in_are_deleted(self):
        self.assertEqual(self.told("if line 1 after x ;", "ab"), ["if line 2 delete ;"])
        self.assertEqual(self.told("before x ;", "ab"), ["if line 1 delete ;", "if line 3 delete ;"])

    def test_lines_that_the_run_deleted_are_put_in(self):
        self.assertEqual(self.told("if line 2 delete ;", "abc"), ["if line 1 after b ;"])
        self.assertEqual(self.told("if line 1 delete ;", "abc"), ["if line 1 before a ;"])
        self.assertEqual(self.told("if not last delete ;", "abc"), ["if line 1 before a ;", "if line 1 before b ;"])

    def test_lines_that_the_run_changed_are_changed_back(self):
        self.assertEqual(self.told("if line 1 change x ;", "ab"), ["if line 1 before a ;", "if line 1 delete ;"])
        self.assertEqual(self.told("change x ;", "ab"),
                         ["if line 1 before a ;", "if line 1 before b ;", "if line 1 delete ;", "if line 2 delete ;"])

    def test_lines_are_numbered_in_what_came(self):
        self.assertEqual(self.told("before x ; before y ; if line 1 delete ; if line 2 delete ;", "ab"),
                         ["if line 1 before a ;", "if line 1 before b ;"]
                         + [f"if line {number} delete ;" for number in range(1, 5)])
        self.assertEqual(self.told("if line 2 delete ; after x ;", "abc"),
                         ["if line 1 after b ;", "if line 2 delete ;", "if line 4 delete ;"])

    def test_more_lines_come_than_a_text_may_have(self):
        self.assertEqual(self.told("if last after x ;" * 16, "a" * 24),
                         [f"if line {number} delete ;" for number in range(25, 41)])

    def test_60_and_61_lines_come(self):
        self.assertEqual(self.told("after b ; after c ;", "a" * 20), -6)
        self.assertEqual(self.told("after b ; after c ; if line 1 after d ;", "a" * 20), -7)

    def test_a_line_gets_too_long(self):
        self.assertEqual(self.told("swap a bbbb ;", ["aaaa", "aaaaa"]), -7)
        self.assertEqual(self.told("first a bb ;", ["a" * 16]), -7)

    def test_letters_of_a_line_that_went(self):
        for line, told in (("", -6), ("b", ["if line 1 after b ;"]), ("b" * 8, ["if line 1 after bbbbbbbb ;"]),
                           ("b" * 9, -6), ("b" * 16, -6)):
            self.assertEqual(self.told("if line 2 delete ;", ["a", line]), told, line)

    def test_own_words_that_went(self):
        for word in OWN_WORDS:
            self.assertEqual(self.told("if line 2 delete ;", ["a", word]), -6, word)
            self.assertEqual(self.told("if line 1 delete ;", [word, "a"]), -6, word)
            self.assertEqual(self.told("if line 2 after x ;", ["a", word]), ["if line 3 delete ;"], word)

    def test_lines_that_came_may_be_any(self):
        self.assertEqual(self.told("swap a none ;", ["a"]), ["if line 1 before a ;", "if line 1 delete ;"])
        self.assertEqual(self.told("swap x de ;", ["xlete", "b"]), ["if line 1 before xlete ;", "if line 1 delete ;"])
        self.assertEqual(self.told("swap a bbbbbbbb ;", ["aa"]), ["if line 1 before aa ;", "if line 1 delete ;"])

    def test_no_lines_came(self):
        self.assertEqual(self.told("delete ;", ["a"]), -6)
        self.assertEqual(self.told("delete ;", [""]), -6)
        self.assertEqual(self.told("delete ;", []), [])

    def test_16_and_17_commands(self):
        self.assertEqual(len(self.told("if not last delete ;", "a" * 16 + "b")), 16)
        self.assertEqual(self.told("if not last delete ;", "a" * 17 + "b"), -6)
        self.assertEqual(len(self.told("after b ;", "a" * 16)), 16)
        self.assertEqual(self.told("after b ;", "a" * 17), -6)
        self.assertEqual(len(self.told("change b ;", "a" * 8)), 16)
        self.assertEqual(self.told("change b ;", "a" * 9), -6)


class Refusals(unittest.TestCase):
    def test_no_script_held(self):
        self.assertEqual(ask(undo("a\n"), load("delete"), undo("a\n"), load(""), undo("a\n")),
                         [[-1], [0, 3, 6], [-1], [1, 0], [0, 0]])

    def test_texts_not_told_right(self):
        for why, wrong in NOT_TEXTS.items():
            self.assertEqual(ask_one(load("keep ;"), undo(wrong)), [-4], why)

    def test_they_are_looked_at_in_their_order(self):
        self.assertEqual(ask(undo("A"))[-1], [-1])
        too_much = load("swap a bbbbbbbb ;")
        self.assertEqual(ask(too_much, undo("aaa\nB\n"))[-1], [-4])
        gone_and_too_much = load("if line 1 delete ; swap a bbbbbbbb ;")
        self.assertEqual(ask(gone_and_too_much, undo("stop\naaa\n"), undo("stop\na\n"))[1:], [[-7], [-6]])

    def test_a_refusal_leaves_the_script_held(self):
        told = ask(load("if has a delete ; swap b cccccccc ;"), undo("A"), undo("bbb\n"), undo("a\n"), patch("a\nd\n"))
        self.assertEqual(told[1:], [[-4], [-7], [-6], [1, 2, 1, 1, 0]])

    def test_undoing_leaves_the_script_held(self):
        told = ask(load("if line 2 delete ;"), undo("a\nb\n"), patch("a\nb\n"), undo("a\nb\n"))
        self.assertEqual(told[1], told[3])
        self.assertEqual(told[2], [1, 2, 1, 0, 1])


def some_script(chance):
    """A script by chance, with deeds and addresses of every kind."""
    def word():
        return chance.choice(("a", "b", "ab", "x"))

    addresses = (f"all|line {chance.randint(1, 6)}|from 2 to {chance.randint(2, 6)}|last|has {word()}|is {word()}"
                 "|not last").split("|")
    deeds = (f"delete|before {word()}|after {word()}|change {word()}|swap {word()} {word()}|first a b|swap b none"
             f"|keep|bring|trade|skip {chance.randint(1, 3)}|stop").split("|")
    return "".join(f"if {chance.choice(addresses)} {chance.choice(deeds)} ;" for i in range(chance.randint(1, 5)))


class UndoBringsBack(unittest.TestCase):
    def test_texts_of_a_few_lines(self):
        chance = random.Random(11)
        brought_back = 0
        for turn in range(2000):
            source = some_script(chance)
            lines = [chance.choice(("a", "b", "ab", "ba", "c")) for i in range(chance.randint(0, 6))]
            came = outcome(source, *lines)
            told = ask_one(load(source), undo(text(*lines)))
            if told != [-6] and len(came) <= 24:
                brought_back += came != lines
                self.assertEqual(outcome(told[2:], *came), lines, source)
        self.assertGreater(brought_back, 700)

    def test_a_text_from_more_lines_than_a_text_may_have(self):
        letters = list("abcdefghijklmnopqrstuvw")
        source = "if last after x ;" * 11 + "if line 3 change z ; if line 7 delete ;"
        came = outcome(source, *letters)
        self.assertEqual(len(came), 33)
        told = ask_one(load(source), undo(text(*letters)))
        # So many lines can't be handed in, so the script is run over them as the calls run it.
        self.assertEqual(result_of(commands_of(told[2:]), came), letters)


if __name__ == "__main__":
    unittest.main()
