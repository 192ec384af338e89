import random
import unittest
from itertools import product

from helper import NOT_TEXTS, ask, ask_one, drift, hunks, load, patch, plain_changes, text


def put(first, second, other):
    """The lines that come when the least patch of first to second is put to others; or the change's number."""
    told = ask_one(drift(text(*first), text(*second), text(*other)))
    if told[0] == 0:
        assert len(told) == 2, "no more than the change's number"
        return told[1]
    assert told[0] == 1 and told[2] == len(told) - 3, "as many bytes as told"
    lines = bytes(told[3:]).decode("ascii").split("\n")
    assert lines.pop() == "" and told[1] == len(lines), "as many lines as told"
    return lines


def plain_put(changes, other):
    """What put gives, by the document's words alone."""
    inserted = {}
    gone = set()
    end = moved = 0
    for number, (place, before, out, into, behind) in enumerate(changes):
        row = before + out + behind
        standing = [at for at in range(len(other) + 1)
                    if at - len(before) >= end and list(other[at - len(before):][:len(row)]) == row]
        if not standing:
            return number
        wanted = max(0, place + moved)
        found = sorted(standing, key=lambda at: (abs(at - wanted), at))[0]
        inserted[found] = into
        gone.update(range(found, found + len(out)))
        end = found + len(out)
        moved = found - place
    made = []
    for at in range(len(other) + 1):
        made += inserted.get(at, [])
        made += [] if at in gone else list(other[at:at + 1])
    return made


def lies_in(row, lines):
    """Whether the lines of a row stand in other lines, in their order."""
    left = iter(lines)
    return all(line in left for line in row)


class Drift(unittest.TestCase):
    def test_worked_examples(self):
        self.assertEqual(ask_one(drift("a\nb\nc\n", "a\nx\nc\nd\n", "z\na\nb\nc\ne\n")),
                         [1, 6, 12, 122, 10, 97, 10, 120, 10, 99, 10, 100, 10, 101, 10])
        self.assertEqual(ask_one(drift("a\nb\nc\n", "a\nx\nc\nd\n", "b\nc\n")), [0, 0])

    def test_no_changes_leave_any_text(self):
        self.assertEqual(put("", "", ""), [])
        self.assertEqual(put("ab", "ab", ""), [])
        self.assertEqual(put("ab", "ab", ["", "x", "y" * 16]), ["", "x", "y" * 16])

    def test_to_the_very_text(self):
        self.assertEqual(put("abc", "axcd", "abc"), list("axcd"))
        self.assertEqual(put("aaaa", "aa", "aaaa"), list("aa"))
        self.assertEqual(put("abab", "xbyb", "abab"), list("xbyb"))

    def test_lines_taken_out_have_to_stand_there(self):
        self.assertEqual(put("ab", "a", "ab"), ["a"])
        self.assertEqual(put("ab", "a", "ac"), 0)
        self.assertEqual(put("ab", "", "ab"), [])
        self.assertEqual(put("ab", "", "ba"), 0)
        self.assertEqual(put("ab", "", "axb"), 0)

    def test_lines_before_have_to_stand_there(self):
        self.assertEqual(put("xyb", "xy", "zxyb"), list("zxy"))
        self.assertEqual(put("xyb", "xy", "xzb"), 0)
        self.assertEqual(put("xyb", "xy", "zyb"), 0)
        self.assertEqual(put("xyb", "xy", "yb"), 0)
        self.assertEqual(put("wxyb", "wxy", "zxyb"), list("zxy"))

    def test_lines_behind_have_to_stand_there(self):
        self.assertEqual(put("bxy", "xy", "bxyz"), list("xyz"))
        self.assertEqual(put("bxy", "xy", "bzy"), 0)
        self.assertEqual(put("bxy", "xy", "bxz"), 0)
        self.assertEqual(put("bxy", "xy", "bx"), 0)
        self.assertEqual(put("bxyw", "xyw", "bxyz"), list("xyz"))

    def test_lines_put_in_need_the_lines_around_alone(self):
        self.assertEqual(put("ab", "axb", "cabd"), list("caxbd"))
        self.assertEqual(put("ab", "axb", "acb"), 0)
        self.assertEqual(put("ab", "axb", "a"), 0)
        self.assertEqual(put("a", "xa", "bca"), list("bcxa"))
        self.assertEqual(put("a", "ax", "bac"), list("baxc"))

    def test_a_change_with_nothing_around_stands_everywhere(self):
        self.assertEqual(put("", "xy", ""), list("xy"))
        self.assertEqual(put("", "xy", "abc"), list("xyabc"))

    def test_more_is_asked_than_the_text_has(self):
        self.assertEqual(put("a", "", ""), 0)
        self.assertEqual(put("a" * 24, "", "a" * 23), 0)
        self.assertEqual(put("a", "ax", ""), 0)

    def test_the_nearest_place(self):
        self.assertEqual(put("a", "x", "baa"), list("bxa"))
        self.assertEqual(put("qqqa", "qqq", "qqaqqqqa"), list("qqqqqqa"))
        self.assertEqual(put("a" + "k" * 9, "k" * 9, "kkakkakk"), list("kkkkakk"))

    def test_near_is_told_by_the_lines_taken_out_not_those_before(self):
        self.assertEqual(put("qkka", "qkk", "kkakkka"), list("kkkkka"))
        self.assertEqual(put("qqkka", "qqkk", "kkakka"), list("kkakk"))

    def test_of_two_as_near_the_one_nearer_to_the_front(self):
        self.assertEqual(put("qqqqa", "qqqq", "qqaqqqa"), list("qqqqqa"))
        self.assertEqual(put("qqqqa", "qqqqb", "qqaqqqa"), list("qqbqqqa"))
        self.assertEqual(put("zzzz", "zzzzx", "zzyyzz"), list("zzxyyzz"))
        self.assertEqual(put("akkkkc", "kkkk", "zakkckkkc"), list("zkkkkkc"))

    def test_drift_goes_on_to_the_next_change(self):
        # The first change is put 4 further behind, so the second is, too, though it stands at its own place as well.
        self.assertEqual(put("abkkkkkkck", "bkkkkkkk", "zzzzabkkckkkck"), list("zzzzbkkckkkk"))
        self.assertEqual(put("kkkkkkkkck", "kkkkkkkkk", "zzzzabkkckkkck"), list("zzzzabkkkkkck"))

    def test_drift_to_the_front(self):
        self.assertEqual(put("qqqqqabkkkkkkck", "qqqqqbkkkkkkk", "qqabkkkkkkckkck"), list("qqbkkkkkkkkck"))
        self.assertEqual(put("zzabcdefg", "zzbcdeg", "zzabcdefg"), list("zzbcdeg"))

    def test_drift_is_that_of_the_change_before_alone(self):
        # The first is put 2 further behind and the second 3, so that 3 is asked of the third, not 5.
        self.assertEqual(put("akkkbkkkc", "kkkkkk", "zzakkkkbkkkckkc"), list("zzkkkkkkkkkc"))

    def test_a_change_is_put_behind_the_one_before(self):
        self.assertEqual(put("axa", "x", "axa"), ["x"])
        self.assertEqual(put("axb", "x", "xbax"), 1)
        self.assertEqual(put("axb", "x", "axxb"), list("xx"))

    def test_lines_before_stand_not_ahead_of_where_those_taken_out_ended(self):
        self.assertEqual(put("abxb", "xb", "abxb"), list("xb"))
        self.assertEqual(put("xkyky", "kk", "xkyky"), list("kk"))
        self.assertEqual(put("xky", "k", "kxky"), list("kk"))
        self.assertEqual(put("xky", "k", "kyxk"), 1)
        self.assertEqual(put("kxkky", "kkk", "kxkkky"), list("kkkk"))

    def test_the_number_of_the_first_change_that_cannot_be_put(self):
        self.assertEqual(put("akbkckd", "kkk", "akbkckd"), list("kkk"))
        self.assertEqual(put("akbkckd", "kkk", "xkbkckd"), 0)
        self.assertEqual(put("akbkckd", "kkk", "akxkckd"), 1)
        self.assertEqual(put("akbkckd", "kkk", "akbkxkd"), 2)
        self.assertEqual(put("akbkckd", "kkk", "akbkckx"), 3)
        self.assertEqual(put("akbkckd", "kkk", "xkxkxkx"), 0)

    def test_more_lines_than_a_text_may_have_come(self):
        self.assertEqual(put("", "b" * 24, "a" * 24), list("b" * 24 + "a" * 24))
        longest = ["c" * 16] * 24
        self.assertEqual(put([], longest, longest), longest * 2)

    def test_lines_of_any_letters(self):
        self.assertEqual(put(["", "if"], ["", "stop", "d" * 16], ["x", "", "if", ""]), ["x", "", "stop", "d" * 16, ""])

    def test_texts_not_told_right(self):
        for why, wrong in NOT_TEXTS.items():
            self.assertEqual(ask_one(drift(wrong, "", "a\n")), [-4], why)
            self.assertEqual(ask_one(drift("a\n", wrong, "")), [-4], why)
            self.assertEqual(ask_one(drift("", "a\n", wrong)), [-4], why)

    def test_the_texts_are_looked_at_before_the_changes_are_put(self):
        self.assertEqual(ask_one(drift("a\n", "", "B\n")), [-4])

    def test_the_script_held_stays(self):
        told = ask(drift("", "", ""), load("delete ;"), drift("a\n", "", "b\n"), drift("A", "", ""), patch("a\n"))
        self.assertEqual(told, [[1, 0, 0], [1, 1], [0, 0], [-4], [1, 1, 0, 1]])


class DriftAgainstPlainSearch(unittest.TestCase):
    def compare(self, first, second, other):
        self.assertEqual(put(first, second, other), plain_put(plain_changes(first, second), other),
                         (first, second, other))

    def test_all_texts_of_few_lines(self):
        texts = [lines for size in range(4) for lines in product("ab", repeat=size)]
        for first, second, other in product(texts, repeat=3):
            self.compare(first, second, other)

    def test_changed_texts_by_chance(self):
        chance = random.Random(7)
        outcomes = {}
        for turn in range(1500):
            first = [chance.choice("aab") for i in range(chance.randint(4, 9))]
            second = [chance.choice((line, line, "x")) for line in first if chance.random() < 0.9]
            other = first + ["k"] * chance.randint(0, 3) + first
            other = (["k"] * chance.randint(0, 3) + other)[:chance.randint(0, 24)][chance.randint(0, 3):]
            self.compare(tuple(first), tuple(second), tuple(other))
            came = put(first, second, other)
            kind = "put" if isinstance(came, list) else came
            outcomes[kind] = outcomes.get(kind, 0) + 1
        self.assertGreater(min(outcomes["put"], outcomes[0], outcomes[1]), 30, outcomes)


class Promises(unittest.TestCase):
    def test_put_to_the_very_text_it_makes_the_second(self):
        chance = random.Random(8)
        for turn in range(1000):
            letters = chance.choice(("a", "ab", "abcdef"))
            first, second = [[chance.choice(letters) for i in range(chance.randint(0, 24))] for j in range(2)]
            self.assertEqual(put(first, second, first), second)

    def test_lines_that_no_change_took_out_are_still_there_in_order(self):
        chance = random.Random(9)
        seen = 0
        for turn in range(2000):
            first = [chance.choice("ab") for i in range(chance.randint(1, 8))]
            second = [chance.choice(line + line + "x") for line in first if chance.random() < 0.8]
            other = [chance.choice("ab") for i in range(chance.randint(8, 24))]
            came = put(first, second, other)
            if isinstance(came, list):
                seen += 1
                rest = [line for line in came if line != "x"]
                self.assertTrue(lies_in(rest, other), (first, second, other))
                self.assertEqual(len(came) - len(other), len(second) - len(first))
        self.assertGreater(seen, 500)

    def test_lines_put_in_alone_leave_all_lines(self):
        chance = random.Random(10)
        for turn in range(500):
            first = [chance.choice("ab") for i in range(chance.randint(0, 3))]
            second = [line for old in first for line in [old] + ["x"] * chance.randint(0, 1)]
            other = [chance.choice("ab") for i in range(24)]
            came = put(first, second, other)
            if isinstance(came, list):
                self.assertEqual([line for line in came if line != "x"], other)

    def test_a_change_not_put_is_one_that_hunks_tells(self):
        first, second = text(*"akbkckd"), text(*"kkk")
        count = ask_one(hunks(first, second))[0]
        self.assertEqual(count, 4)
        self.assertEqual(ask_one(drift(first, second, text(*"akbkck"))), [0, 3])


if __name__ == "__main__":
    unittest.main()
