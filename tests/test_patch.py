import unittest

from helper import NOT_TEXTS, ask, ask_one, load, outcome, patch, text


class Patch(unittest.TestCase):
    def test_worked_example(self):
        told = ask_one(load("if is b change x ;"), patch("a\nb\nc\n"))
        self.assertEqual(told, [2, 4, 2, 0, 1, 2, 1, 120, 0])

    def test_the_text_without_lines(self):
        self.assertEqual(ask_one(load("before a ; after b ; bring ;"), patch("")), [0, 0, 0])

    def test_the_empty_script_keeps_all(self):
        self.assertEqual(ask_one(load(""), patch("a\n\nb\n")), [0, 3, 3, 0, 0, 0])


class Refusals(unittest.TestCase):
    def test_no_script_held(self):
        self.assertEqual(ask(patch("a\n"), load("keep ;"), patch("a\n")), [[-1], [1, 1], [0, 1, 1, 0]])

    def test_texts_not_told_right(self):
        for why, wrong in NOT_TEXTS.items():
            self.assertEqual(ask_one(load("keep ;"), patch(wrong)), [-4], why)

    def test_no_script_is_looked_at_first(self):
        self.assertEqual(ask(patch("A")), [[-1]])

    def test_the_text_is_looked_at_before_the_run(self):
        too_much = load("swap a bbbbbbbb ;")
        self.assertEqual(ask(too_much, patch("aaa\n"), patch("aaa\nB\n")), [[1, 1], [-7], [-4]])

    def test_a_refusal_leaves_the_script_held(self):
        told = ask(load("swap a bbbbbbbb ;"), patch("aaa\n"), patch("A"), patch("a\n"))
        self.assertEqual(told[1:3], [[-7], [-4]])
        self.assertEqual(told[3], [2, 2, 0, 1, 2, 8] + [98] * 8)


class TooMuch(unittest.TestCase):
    def test_16_and_17_letters_by_swap(self):
        self.assertEqual(outcome("swap a bbbb ;", "aaaa"), ["b" * 16])
        self.assertEqual(outcome("swap a bbbb ;", "aaaac"), -7)
        self.assertEqual(outcome("swap a bb ;", "a" * 8), ["b" * 16])
        self.assertEqual(outcome("swap a bb ;", "a" * 9), -7)

    def test_16_and_17_letters_by_first(self):
        self.assertEqual(outcome("first a bb ;", "a" * 15), ["bb" + "a" * 14])
        self.assertEqual(outcome("first a bb ;", "a" * 16), -7)
        self.assertEqual(outcome("first a bbbbbbbb ;", "a" * 9), ["b" * 8 + "a" * 8])
        self.assertEqual(outcome("first a bbbbbbbb ;", "a" * 10), -7)

    def test_too_long_for_a_while_is_too_much(self):
        for then in ("delete ;", "change c ;", "swap b none ;", "trade ;", "stop ;"):
            self.assertEqual(outcome("swap a bb ;" + then, "a" * 9), -7, then)
            self.assertEqual(outcome("first a bb ;" + then, "a" * 16), -7, then)

    def test_a_swap_of_the_held_line(self):
        self.assertEqual(outcome("if line 1 keep ; if line 2 trade ; if line 2 swap a bb ;", "a" * 9, "c"), -7)

    def test_a_swap_that_is_not_done_is_not_too_much(self):
        self.assertEqual(outcome("delete ; swap a bb ;", "a" * 9), [])
        self.assertEqual(outcome("stop ; swap a bb ;", "a" * 9), ["a" * 9])
        self.assertEqual(outcome("skip 1 ; swap a bb ;", "a" * 9), ["a" * 9])
        self.assertEqual(outcome("if line 2 swap a bb ;", "a" * 9), ["a" * 9])

    def test_60_and_61_lines(self):
        twenty = ["a"] * 20
        self.assertEqual(outcome("after b ; after c ;", *twenty), ["a", "b", "c"] * 20)
        self.assertEqual(outcome("after b ; after c ; if last before d ;", *twenty), -7)
        self.assertEqual(outcome("after b ; after c ;", *twenty, "a"), -7)
        self.assertEqual(outcome("if last delete ; after b ; after c ;", *twenty, "a"), ["a", "b", "c"] * 20)

    def test_60_and_61_lines_by_each_deed_that_puts_lines(self):
        for deed in ("before x", "after x", "bring"):
            commands = f"{deed} ; {deed} ; {deed} ; {deed} ;"
            self.assertEqual(len(outcome(commands, *["a"] * 12)), 60, deed)
            self.assertEqual(outcome(commands + f" if line 1 {deed} ;", *["a"] * 12), -7, deed)

    def test_the_most_lines_that_a_run_can_make(self):
        self.assertEqual(outcome("after x ;" * 16, *["a"] * 24), -7)

    def test_a_result_of_60_lines_is_told_whole(self):
        told = ask_one(load("after x ; after y ; after z ; after x ;"), patch("a\n" * 12))
        behind = [2, 1, 120, 2, 1, 121, 2, 1, 122, 2, 1, 120]
        self.assertEqual(told, [48, 60, 12] + ([0] + behind) * 12)


class Deeds(unittest.TestCase):
    def runs(self, script, lines, result):
        self.assertEqual(outcome(script, *lines), result, script)

    def test_delete(self):
        self.runs("delete ;", ["a", "b"], [])
        self.runs("if is a delete ;", ["a", "b", "a"], ["b"])

    def test_delete_ends_what_is_done_on_the_line(self):
        self.runs("if is a delete ; after x ; before y ; keep ;", ["a", "b"], ["y", "b", "x"])
        self.runs("if is b delete ; keep ; if is c bring ;", ["a", "b", "c"], ["a", "c", "c"])
        self.runs("if line 1 keep ; if line 2 delete ; if line 2 keep ; if line 3 bring ;",
                  ["a", "b", "c"], ["a", "c", "a"])

    def test_lines_put_before_a_delete_come(self):
        self.runs("before x ; after y ; delete ;", ["a"], ["x", "y"])
        self.runs("keep ; bring ; delete ;", ["a"], ["a"])

    def test_before(self):
        self.runs("before x ; before y ;", ["a", "b"], ["x", "y", "a", "x", "y", "b"])

    def test_after(self):
        self.runs("after x ; after y ;", ["a", "b"], ["a", "x", "y", "b", "x", "y"])

    def test_before_and_after(self):
        self.runs("after p ; before x ; after q ; before y ;", ["a"], ["x", "y", "a", "p", "q"])

    def test_lines_put_are_not_gone_through(self):
        self.runs("before a ; after a ; if is a change b ;", ["a"], ["a", "b", "a"])

    def test_change(self):
        self.runs("change x ;", ["a", "", "abc"], ["x", "x", "x"])
        self.runs("change x ; if is x change y ; if is a change z ;", ["a"], ["y"])

    def test_swap(self):
        self.runs("swap a b ;", ["aaa", "cac", "c", ""], ["bbb", "cbc", "c", ""])
        self.runs("swap a none ;", ["aba", "a"], ["b", ""])
        self.runs("swap ab c ;", ["abab", "aabb"], ["cc", "acb"])

    def test_swap_from_the_left_not_overlapping(self):
        self.runs("swap aa b ;", ["aaa", "aaaa", "aaaaa"], ["ba", "bb", "bba"])
        self.runs("swap aba c ;", ["ababa"], ["cba"])
        self.runs("swap aba none ;", ["ababa"], ["ba"])

    def test_swap_does_not_look_at_what_it_put(self):
        self.runs("swap a aa ;", ["aaa"], ["aaaaaa"])
        self.runs("swap ab b ;", ["aab", "aabb"], ["ab", "abb"])
        self.runs("swap ab none ;", ["aabb"], ["ab"])

    def test_swap_of_letters_by_the_same(self):
        self.runs("swap a a ;", ["aba"], ["aba"])

    def test_first(self):
        self.runs("first a b ;", ["aaa", "cac", "c"], ["baa", "cbc", "c"])
        self.runs("first a none ;", ["aba", "a"], ["ba", ""])
        self.runs("first aa b ;", ["caaa"], ["cba"])
        self.runs("first a b ; first a b ;", ["aaa"], ["bba"])

    def test_the_held_line_has_no_letters_at_first(self):
        self.runs("bring ;", ["a"], ["a", ""])
        self.runs("trade ;", ["a"], [""])

    def test_keep_and_bring(self):
        self.runs("keep ; bring ;", ["a"], ["a", "a"])
        self.runs("bring ; keep ;", ["a", "b"], ["a", "", "b", "a"])

    def test_bring_stands_among_the_lines_put_behind(self):
        self.runs("keep ; after x ; bring ; after y ;", ["a"], ["a", "x", "a", "y"])

    def test_bring_and_keep_take_the_line_as_it_is_by_then(self):
        self.runs("keep ; change b ; bring ; keep ; bring ; change c ;", ["a"], ["c", "a", "b"])

    def test_trade(self):
        self.runs("trade ;", ["a", "b", "c"], ["", "a", "b"])
        self.runs("keep ; change x ; trade ; bring ;", ["a"], ["a", "x"])
        self.runs("trade ; trade ;", ["a", "b"], ["a", "b"])

    def test_the_held_line_goes_from_line_to_line(self):
        self.runs("if line 1 keep ; if line 3 bring ;", ["a", "b", "c"], ["a", "b", "c", "a"])
        self.runs("if line 1 keep ; if line 1 delete ; if last bring ;", ["a", "b", "c"], ["b", "c", "a"])
        self.runs("if line 1 trade ; if line 2 stop ; if line 3 trade ;", ["a", "b", "c"], ["", "b", "a"])

    def test_the_held_line_does_not_go_from_run_to_run(self):
        told = ask(load("bring ; keep ;"), patch(text("a")), patch(text("b")))
        self.assertEqual(told[1:], [[1, 2, 1, 0, 2, 0]] * 2)

    def test_skip(self):
        self.runs("skip 1 ; after x ; after y ;", ["a"], ["a", "y"])
        self.runs("skip 2 ; after x ; after y ;", ["a"], ["a"])
        self.runs("skip 9 ; after x ;", ["a", "b"], ["a", "b"])
        self.runs("skip 9 ;" + "after x ;" * 9 + "after y ;", ["a"], ["a", "y"])

    def test_skip_counts_whatever_commands(self):
        self.runs("skip 2 ; if is b after x ; after y ; after z ;", ["a"], ["a", "z"])
        self.runs("skip 1 ; skip 9 ; after x ;", ["a"], ["a", "x"])
        self.runs("skip 1 ; stop ; after x ;", ["a"], ["a", "x"])
        self.runs("skip 1 ; delete ; after x ;", ["a"], ["a", "x"])

    def test_skip_is_for_one_line_alone(self):
        self.runs("if line 1 skip 1 ; after x ;", ["a", "b"], ["a", "b", "x"])
        self.runs("after x ; if line 1 skip 9 ;", ["a", "b"], ["a", "x", "b", "x"])

    def test_a_skip_whose_address_does_not_hold(self):
        self.runs("if is b skip 1 ; after x ;", ["a", "b"], ["a", "x", "b"])

    def test_stop(self):
        self.runs("before x ; after y ; stop ; change z ; after z ;", ["a", "b"], ["x", "a", "y", "x", "b", "y"])
        self.runs("if is a stop ; change z ;", ["a", "b"], ["a", "z"])


class Addresses(unittest.TestCase):
    LINES = ["a", "ab", "b", "", "cab"]

    def hits(self, address, numbers):
        result = outcome(f"if {address} change hit ;", *self.LINES)
        self.assertEqual([i + 1 for i, line in enumerate(result) if line == "hit"], numbers, address)
        inverse = [number for number in range(1, 6) if number not in numbers]
        result = outcome(f"if not {address} change hit ;", *self.LINES)
        self.assertEqual([i + 1 for i, line in enumerate(result) if line == "hit"], inverse, address)

    def test_all(self):
        self.hits("all", [1, 2, 3, 4, 5])

    def test_line(self):
        for number in range(1, 6):
            self.hits(f"line {number}", [number])
        self.hits("line 6", [])
        self.hits("line 99", [])

    def test_from(self):
        self.hits("from 1 to 1", [1])
        self.hits("from 2 to 4", [2, 3, 4])
        self.hits("from 4 to 99", [4, 5])
        self.hits("from 6 to 7", [])

    def test_last(self):
        self.hits("last", [5])
        self.assertEqual(outcome("if last change x ;", "a"), ["x"])

    def test_has(self):
        self.hits("has a", [1, 2, 5])
        self.hits("has b", [2, 3, 5])
        self.hits("has ab", [2, 5])
        self.hits("has ba", [])
        self.hits("has cb", [])
        self.hits("has abc", [])

    def test_is(self):
        self.hits("is a", [1])
        self.hits("is ab", [2])
        self.hits("is cab", [5])
        self.hits("is c", [])

    def test_nots(self):
        self.hits("not line 2", [1, 3, 4, 5])
        self.hits("not not line 2", [2])

    def test_lines_are_numbered_in_the_text_that_is_run_over(self):
        self.assertEqual(outcome("if line 1 delete ; before x ; if line 2 change y ;", "a", "b", "c"),
                         ["x", "y", "x", "c"])

    def test_the_last_line_is_the_text_s_last(self):
        self.assertEqual(outcome("if last delete ; after x ; if last change z ;", "a", "b"), ["a", "x"])

    def test_has_and_is_look_at_the_line_as_it_is_by_now(self):
        self.assertEqual(outcome("change b ; if has a after x ; if has b after y ;", "a"), ["b", "y"])
        self.assertEqual(outcome("swap a none ; if is a after x ; if is bc after y ;", "abac"), ["bc", "y"])

    def test_several_addresses_on_one_line(self):
        script = ("if line 2 before x ; if from 2 to 3 after y ; if last delete ; if not has b swap a c ; "
                  "if is c bring ;")
        self.assertEqual(outcome(script, "a", "ab", "ba"), ["c", "", "x", "ab", "y", "y"])


class Together(unittest.TestCase):
    def test_a_text_shifted_by_one_line(self):
        self.assertEqual(outcome("trade ; if last bring ;", "a", "b", "c"), ["", "a", "b", "c"])

    def test_skip_stands_for_a_choice(self):
        script = "if has a skip 2 ; change no ; skip 1 ; change yes ;"
        self.assertEqual(outcome(script, "a", "b", "ca"), ["yes", "no", "yes"])

    def test_16_commands(self):
        script = "".join(f"swap {old} {new} ;" for old, new in zip("abcdefghijklmnop", "bcdefghijklmnopq"))
        self.assertEqual(outcome(script, "a", "h", "pz"), ["q", "q", "qz"])


if __name__ == "__main__":
    unittest.main()
