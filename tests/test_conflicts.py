"""conflicts: spots, alike up to a length, contradictions. Promises 1 and 3."""

import unittest

from helper import (HUGE, WORKED, ask, ask_of, conflicts, letters_of, list_text, load, made_lists, one_digit_patterns,
                    pattern_gaps, plain_conflicts, plain_contradictions, plain_levels)
from wordgaps.alike import find_contradictions
from wordgaps.wordlist import read_list


class Answers(unittest.TestCase):
    def test_worked(self):
        self.assertEqual(ask_of(WORKED, conflicts(1), conflicts(2), conflicts(3)),
                         [[3, 1, 2, 2, 2], [1, 2, 3, 1, 3], [0]])

    def test_length_0(self):
        # With no letter at all each two spots are alike: 3 that may be parted, 5 that may not.
        self.assertEqual(ask_of(WORKED, conflicts(0)), [[15, 0, 1, 0, 2]])

    def test_no_words(self):
        self.assertEqual(ask_of("margins 0 0 ;", conflicts(0), conflicts(6)), [[0], [0]])

    def test_both_spots_in_one_word(self):
        self.assertEqual(ask_of(list_text(["aa-aaa"]), conflicts(1)), [[1, 0, 2, 0, 3]])
        self.assertEqual(ask_of(list_text(["aaa-aa"]), conflicts(1)), [[1, 0, 3, 0, 2]])

    def test_order_by_the_first_spot_then_the_second(self):
        self.assertEqual(ask_of(list_text(["xaab", "xa-ac", "xa-ad"]), conflicts(1)), [[2, 1, 2, 0, 2]])
        self.assertEqual(ask_of(list_text(["xa-ab", "xaac", "xaad"]), conflicts(1)), [[2, 0, 2, 1, 2]])

    def test_where_all_letters_of_a_side_stand(self):
        # One letter before both gaps: it is all there for one alone, so they are not alike.
        self.assertEqual(ask_of(list_text(["a-bx", "cabx"]), conflicts(1)), [[0]])
        self.assertEqual(ask_of(list_text(["xb-a", "xbac"]), conflicts(1)), [[0]])
        # n letters on a side are all, and n + 1 are not.
        self.assertEqual(ask_of(list_text(["ca-bxy", "zcabxy"]), conflicts(1), conflicts(2)),
                         [[1, 0, 2, 1, 3], [0]])
        self.assertEqual(ask_of(list_text(["yxb-ac", "yxbacz"]), conflicts(1), conflicts(2)),
                         [[1, 0, 3, 1, 3], [0]])

    def test_fewer_letters_than_the_length(self):
        self.assertEqual(ask_of(list_text(["a-bcx", "abcy"]), conflicts(1), conflicts(2), conflicts(3)),
                         [[1, 0, 1, 1, 1], [1, 0, 1, 1, 1], [0]])

    def test_margins(self):
        words = ["abc-xyz", "a-bcxy", "tbcxy"]
        self.assertEqual(ask_of(list_text(["a-aa", "ba-b"], 0, 0), conflicts(0)),
                         ask_of(list_text(["a-aa", "ba-b"], 1, 1), conflicts(0)))
        for left in range(6):
            for right in range(6):
                for n in (0, 1, 2):
                    self.assertEqual(ask_of(list_text(words, left, right), conflicts(n)),
                                     [plain_conflicts(left, right, words, n)])

    def test_greatest_margins(self):
        # A word of 10 letters has one spot within margins 5 5, one of 9 none.
        words = ["abcde-fghij", "abcdefghik", "a-b-c-d-e-f-g-h-i"]
        self.assertEqual(ask_of(list_text(words, 5, 5), conflicts(0), conflicts(4), conflicts(5)),
                         [[1, 0, 5, 1, 5], [1, 0, 5, 1, 5], [0]])

    def test_greatest_list(self):
        words = ["-".join("aaaaaaaaaaaaaa" + sign + "z") for sign in "abcdefghijkl"]
        words += ["aaaaaaaaaaaaaa" + sign + "y" for sign in "abcdefghijkl"]
        self.assertEqual(ask_of(list_text(words, 0, 0), conflicts(0), conflicts(6)),
                         [[180 * 180, 0, 1, 12, 1], plain_conflicts(0, 0, words, 6)])

    def test_listed_patterns_do_not_count(self):
        self.assertEqual(ask_of(WORKED + " pattern a1b ; pattern c1 ;", conflicts(1)), [[3, 1, 2, 2, 2]])

    def test_against_a_second_reading(self):
        lists = made_lists(1, 60) + made_lists(2, 60, "abc", 9, (2, 9)) + made_lists(3, 12, "aab", 24, (8, 16))
        for left, right, words in lists:
            self.assertEqual(ask_of(list_text(words, left, right), *[conflicts(n) for n in range(7)]),
                             [plain_conflicts(left, right, words, n) for n in range(7)], (left, right, words))


class Refusals(unittest.TestCase):
    def test_no_list(self):
        self.assertEqual(ask(conflicts(1), conflicts(7), conflicts(-HUGE)), [[-1]] * 3)

    def test_length(self):
        self.assertEqual(ask_of(WORKED, *[conflicts(n) for n in (-1, 7, -HUGE, HUGE, 16)]), [[-3]] * 5)
        self.assertEqual(ask_of(WORKED, conflicts(6)), [[0]])

    def test_a_refusal_changes_nothing(self):
        self.assertEqual(ask_of(WORKED, conflicts(7), conflicts(2)), [[-3], [1, 2, 3, 1, 3]])


class Promises(unittest.TestCase):
    def test_1_no_patterns_part_alike_spots_otherwise(self):
        # A level is the greatest digit, so patterns with one digit each decide for all.
        seen = 0
        for left, right, words in made_lists(4, 60, "ab", 6, (3, 7)):
            for n in range(4):
                told = ask_of(list_text(words, left, right), conflicts(n))[0]
                if told[0] == 0:
                    continue
                seen += 1
                first, second = letters_of(words[told[1]]), letters_of(words[told[3]])
                for pattern in one_digit_patterns("ab", n):
                    self.assertEqual((told[2], 1) in pattern_gaps(pattern, first),
                                     (told[4], 1) in pattern_gaps(pattern, second), (words, n, pattern))
        self.assertGreater(seen, 40)

    def test_1_with_several_patterns_and_digits(self):
        told = ask_of(list_text(["xab-aby", "yababx"]), conflicts(2))[0]
        self.assertEqual(told, [1, 0, 3, 1, 3])
        chosen = ["a1b", "b3a", ".2ab", "b5.", "4a", "1b2", "a9.", "b8a1", "7b"]
        for at in range(len(chosen)):
            for end in range(at + 1, len(chosen) + 1):
                self.assertEqual(plain_levels(chosen[at:end], "xababy")[3], plain_levels(chosen[at:end], "yababx")[3])

    def test_3_longer_has_no_more(self):
        for left, right, words in made_lists(5, 80, "ab", 10, (2, 12)):
            told = [answer[0] for answer in ask_of(list_text(words, left, right), *[conflicts(n) for n in range(7)])]
            self.assertEqual(told, sorted(told, reverse=True), words)

    def test_3_none_with_as_many_letters_as_a_word_has(self):
        for left, right, words in made_lists(6, 80, "ab", 12, (2, 7)):
            self.assertEqual(ask_of(list_text(words, left, right), conflicts(6)), [[0]], words)
        words = ["a" * 8 + "-" + "a" * 8, "a" * 15, "-".join("a" * 14)]
        held = read_list(load(list_text(words))[2:])
        self.assertEqual(find_contradictions(held, 16), [])
        self.assertGreater(len(plain_contradictions(1, 1, words, 6)), 0)
        self.assertEqual(ask_of(list_text(words), conflicts(6)), [plain_conflicts(1, 1, words, 6)])


if __name__ == "__main__":
    unittest.main()
