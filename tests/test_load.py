import unittest

from helper import OWN_WORDS, ask, ask_one, load, outcome, patch, text

ADDRESSES = ["all", "line 1", "from 1 to 2", "last", "has w", "is w", "not all", "not not not line 99"]
DEEDS = ["delete", "before w", "after w", "change w", "swap a b", "swap a none", "first a b", "first a none",
         "keep", "bring", "trade", "skip 1", "stop"]


class LoadCase(unittest.TestCase):
    def right(self, script, commands):
        self.assertEqual(ask_one(load(script)), [1, commands], script)

    def wrong(self, script, code, place):
        self.assertEqual(ask_one(load(script)), [0, code, place], script)


class RightScripts(LoadCase):
    def test_empty(self):
        self.right("", 0)

    def test_only_blanks_and_remarks(self):
        for script in (" ", "\t", "\n", " \t\n ", "#", "# delete ; $", "#\n", "#a\n#b\n", " # a # b"):
            self.right(script, 0)

    def test_blanks_and_remarks_between_all_tokens(self):
        self.right("#x\nif#y\n line# 7\n\t1 \n delete#;\n;#", 1)

    def test_a_remark_goes_to_the_next_byte_10_alone(self):
        self.right(list(b"#\x00\xff\r;\\A ; delete ;\ndelete;"), 1)

    def test_tokens_need_no_blanks_between_them(self):
        self.right("if line1delete;skip9;stop;", 3)

    def test_each_address_with_each_deed(self):
        for address in ADDRESSES:
            for deed in DEEDS:
                self.right(f"if {address} {deed} ;", 1)

    def test_each_deed_alone(self):
        for deed in DEEDS:
            self.right(f"{deed};", 1)

    def test_all_deeds_together(self):
        self.right(" ; ".join(DEEDS) + ";", len(DEEDS))


class FaultsOfTokens(LoadCase):
    def test_each_byte_alone(self):
        for byte in range(256):
            if byte in (32, 9, 10, 35):
                self.right([byte], 0)
            elif byte == 59 or chr(byte) in "abcdefghijklmnopqrstuvwxyz0123456789":
                self.wrong([byte], 3, 0)
            else:
                self.wrong([byte], 2, 0)

    def test_a_byte_that_begins_no_token_behind_others(self):
        self.wrong("delete ; Keep ;", 2, 9)
        self.wrong("after aB ;", 2, 7)
        self.wrong("delete\r;", 2, 6)
        self.wrong("skip -1 ;", 2, 5)

    def test_words_of_8_and_9_letters(self):
        self.right("after abcdefgh ;", 1)
        self.wrong("after abcdefghi ;", 2, 6)
        self.wrong("aaaaaaaaa", 2, 0)
        self.wrong("deletedelete;", 2, 0)
        self.wrong("after a; # x\n" + "z" * 4000, 2, 13)

    def test_a_word_of_8_letters_before_a_digit(self):
        self.wrong("after abcdefgh1 ;", 3, 14)

    def test_numbers_too_great(self):
        self.wrong("skip 1000000000 ;", 7, 5)
        self.wrong("skip 1000000001 ;", 2, 5)
        self.wrong("skip 9999999999 ;", 2, 5)
        self.wrong("skip 10000000000 ;", 2, 5)
        self.wrong("skip " + "9" * 4091, 2, 5)

    def test_needless_zeros(self):
        self.wrong("skip 0 ;", 7, 5)
        self.wrong("skip 00 ;", 2, 5)
        self.wrong("skip 01 ;", 2, 5)
        self.wrong("skip 0000000000001 ;", 2, 5)
        self.wrong("if line 09 keep ;", 2, 8)
        self.wrong("if line 10 keep ; 0", 3, 18)

    def test_fault_2_comes_before_those_that_stand_ahead_of_it(self):
        self.wrong("; ; $", 2, 4)
        self.wrong("skip 0 ; $", 2, 9)
        self.wrong("if not not not not all keep ; 007", 2, 30)
        self.wrong("keep ;" * 17 + "_", 2, 102)
        self.wrong("keep ? !", 2, 5)

    def test_no_fault_within_a_remark(self):
        self.right("keep ; # 007 $ abcdefghijk", 1)


class FaultOfSize(LoadCase):
    def test_4096_bytes(self):
        self.right("keep;" + " " * 4091, 1)
        self.wrong(" " * 4090 + "delete", 3, 4096)

    def test_more_bytes(self):
        self.wrong("keep;" + " " * 4092, 1, 4096)
        self.wrong("keep;" + " " * 8187, 1, 4096)
        self.wrong("$" * 4097, 1, 4096)
        self.wrong([255] * 8192, 1, 4096)


class FaultsOfOrder(LoadCase):
    def test_a_command_begins_with_if_or_a_deed(self):
        for start in (";", "all", "line 1 keep;", "none", "w", "1", "not", "to", "has a keep ;", "last"):
            self.wrong("keep; " + start, 3, 6)

    def test_behind_if_stands_an_address(self):
        for start in (";", "if", "keep", "none", "to", "w", "1", "before w"):
            self.wrong("if " + start, 3, 3)
            self.wrong("if not " + start, 3, 7)

    def test_behind_an_address_stands_a_deed(self):
        for address in ADDRESSES:
            place = len("if  ") + len(address)
            for start in (";", "if", "all", "none", "w", "1", "not", "to"):
                self.wrong(f"if {address} {start}", 3, place)

    def test_behind_a_deed_stands_the_sign(self):
        for deed in DEEDS:
            for start in ("keep", "if", "w", "1", "none", "all"):
                self.wrong(f"{deed} {start}", 3, len(deed) + 1)

    def test_the_end_where_more_has_to_come(self):
        whole = "if not from 1 to 2 swap a none ; if has a skip 3 ; if line 4 before b ; if is c first d e ;"
        tokens = whole.split()
        ends = [i + 1 for i, token in enumerate(tokens) if token == ";"]
        for count in range(len(tokens) + 1):
            part = " ".join(tokens[:count])
            if count in [0] + ends:
                self.right(part, ([0] + ends).index(count))
            else:
                self.wrong(part, 3, len(part))
                self.wrong(part + " \n# x", 3, len(part) + 5)

    def test_own_words_are_no_letters(self):
        for word in OWN_WORDS:
            for head in ("before", "after", "change", "swap", "first", "swap a", "first a"):
                script = f"{head} {word} ;"
                if word == "none" and head in ("swap a", "first a"):
                    self.right(script, 1)
                elif head in ("swap", "first"):
                    self.wrong(f"{head} {word} b ;", 3, len(head) + 1)
                else:
                    self.wrong(script, 3, len(head) + 1)
            for head in ("if has", "if is", "if not has"):
                self.wrong(f"{head} {word} keep ;", 3, len(head) + 1)

    def test_words_that_begin_like_own_words_are_letters(self):
        for word in OWN_WORDS:
            for letters in (word + "s", word[:-1], "x" + word):
                if letters not in OWN_WORDS:
                    self.right(f"if is {letters} change {letters} ;", 1)

    def test_numbers_and_signs_where_letters_have_to_stand(self):
        for deed in ("before", "after", "change", "swap", "first", "swap a", "first a"):
            self.wrong(deed + " 1 ;", 3, len(deed) + 1)
            self.wrong(deed + " ;", 3, len(deed) + 1)

    def test_words_and_signs_where_numbers_have_to_stand(self):
        for head in ("skip", "if line", "if from", "if from 1 to"):
            for start in ("w", ";", "none", "to"):
                self.wrong(f"{head} {start} keep ;", 3, len(head) + 1)

    def test_from_without_to(self):
        self.wrong("if from 1 2 keep ;", 3, 10)
        self.wrong("if from 1 keep ;", 3, 10)

    def test_parted_words_are_two(self):
        self.wrong("de lete ;", 3, 0)
        self.wrong("keep ; del#\nete ;", 3, 7)


class FaultsOfCount(LoadCase):
    def test_16_commands_and_a_seventeenth(self):
        self.right("keep ;" * 16, 16)
        self.right("keep ;" * 16 + " \n# keep ;", 16)
        self.wrong("keep ;" * 17, 4, 96)
        self.wrong("keep ;" * 20, 4, 96)

    def test_whatever_token_behind_the_sixteenth_command(self):
        for token in (";", "w", "none", "0", "1000000000", "if", "not"):
            self.wrong("keep ;" * 16 + " " + token, 4, 97)

    def test_an_unfinished_sixteenth_command(self):
        self.wrong("keep ;" * 15 + "keep", 3, 94)

    def test_three_nots_and_a_fourth(self):
        self.right("if not not not all delete ;", 1)
        self.wrong("if not not not not all delete ;", 4, 15)
        self.wrong("if not not not not not ;", 4, 15)
        self.wrong("if not not not not", 4, 15)

    def test_three_nots_in_each_command(self):
        self.right("if not not not all delete ;" * 2, 2)


class FaultsOfBounds(LoadCase):
    def test_line(self):
        self.wrong("if line 0 keep ;", 7, 8)
        self.right("if line 1 keep ;", 1)
        self.right("if line 99 keep ;", 1)
        self.wrong("if line 100 keep ;", 7, 8)
        self.wrong("if not line 1000000000 keep ;", 7, 12)

    def test_from(self):
        self.wrong("if from 0 to 1 keep ;", 7, 8)
        self.right("if from 1 to 1 keep ;", 1)
        self.right("if from 1 to 99 keep ;", 1)
        self.right("if from 99 to 99 keep ;", 1)
        self.wrong("if from 100 to 100 keep ;", 7, 8)
        self.wrong("if from 100 to 1 keep ;", 7, 8)

    def test_to(self):
        self.wrong("if from 1 to 0 keep ;", 7, 13)
        self.wrong("if from 1 to 100 keep ;", 7, 13)
        self.wrong("if from 5 to 4 keep ;", 7, 13)
        self.right("if from 5 to 5 keep ;", 1)
        self.wrong("if from 10 to 9 keep ;", 7, 14)

    def test_skip(self):
        self.wrong("skip 0 ;", 7, 5)
        self.right("skip 1 ;", 1)
        self.right("skip 9 ;", 1)
        self.wrong("skip 10 ;", 7, 5)

    def test_whichever_comes_first(self):
        self.wrong("if line 0 ;", 7, 8)
        self.wrong("if from 0 9", 7, 8)
        self.wrong("; if line 0 keep ;", 3, 0)
        self.wrong("skip 0 ; ;", 7, 5)
        self.wrong("if not not not not line 0 keep ;", 4, 15)
        self.wrong("skip 10 ; if not not not not all keep ;", 7, 5)
        self.wrong("keep 0 ;", 3, 5)
        self.wrong("skip 10", 7, 5)


class WhatIsHeld(unittest.TestCase):
    def test_nothing_after_a_first_load_that_failed(self):
        self.assertEqual(ask(load(";"), patch("")), [[0, 3, 0], [-1]])

    def test_the_script_before_after_a_load_that_failed(self):
        for bad in ("delete", "$", "skip 0 ;", "keep ;" * 17, " " * 4097):
            told = ask(load("change b ;"), load(bad), patch(text("a")))
            self.assertEqual(told[1][0], 0)
            self.assertEqual(told[2], [2, 2, 0, 1, 2, 1, 98])

    def test_a_right_script_takes_the_place_of_the_one_before(self):
        told = ask(load("change b ;"), load("change c ;"), patch(text("a")))
        self.assertEqual(told[2], [2, 2, 0, 1, 2, 1, 99])

    def test_the_empty_script_is_held(self):
        self.assertEqual(ask(load("change b ;"), load(""), patch(text("a")))[2], [0, 1, 1, 0])

    def test_all_16_commands_are_held(self):
        self.assertEqual(outcome("after a ;" * 15 + "after b ;", "x"), ["x"] + ["a"] * 15 + ["b"])


if __name__ == "__main__":
    unittest.main()
