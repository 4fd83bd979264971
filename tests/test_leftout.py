"""leftout: the fewest words that have a part in every contradiction. Promise 2."""

import itertools
import unittest

from helper import HUGE, WORKED, ask, ask_of, conflicts, leftout, list_text, load, made_lists, plain_leftout

ELEVEN = [f"{first}{second}" for first in "abc" for second in "wxyz"][:11]


class Answers(unittest.TestCase):
    def test_worked(self):
        self.assertEqual(ask_of(WORKED, leftout(1), leftout(2), leftout(3)), [[1, 2], [1, 2], [0]])

    def test_no_words(self):
        self.assertEqual(ask_of("margins 0 0 ;", leftout(0)), [[0]])

    def test_a_word_against_itself(self):
        self.assertEqual(ask_of(list_text(["xy", "aa-aaa", "zy"]), leftout(1)), [[1, 1]])

    def test_of_as_many_the_one_without_the_first_word(self):
        self.assertEqual(ask_of(list_text(["xa-by", "zabw"]), leftout(1)), [[1, 1]])
        # Two pairs that have nothing to do with one another: the second of each.
        words = ["xa-by", "xc-dy", "zabw", "zcdw"]
        self.assertEqual(ask_of(list_text(words), leftout(1)), [[2, 2, 3]])

    def test_fewest_goes_before_first(self):
        # Word 0 stands against the other two alone.
        self.assertEqual(ask_of(list_text(["xa-by", "zabw", "yabv"]), leftout(1)), [[1, 0]])

    def test_words_are_told_in_order(self):
        words = ["x-a", "bb-bbb", "xc-dy", "aa-aaa", "zcdw", "cc-ccc"]
        self.assertEqual(ask_of(list_text(words), leftout(1)), [[4, 1, 3, 4, 5]])

    def test_ten_words(self):
        words = [f"x{sign}{sign}-{sign}{sign}{sign}" for sign in "abcdefghij"]
        self.assertEqual(ask_of(list_text(words), leftout(1), leftout(4)), [[10] + list(range(10)), [0]])

    def test_against_a_second_reading(self):
        lists = made_lists(21, 60) + made_lists(22, 40, "abc", 9, (2, 8)) + made_lists(23, 10, "ab", 10, (6, 16))
        for left, right, words in lists:
            self.assertEqual(ask_of(list_text(words, left, right), *[leftout(n) for n in range(7)]),
                             [plain_leftout(left, right, words, n) for n in range(7)], (left, right, words))


class Refusals(unittest.TestCase):
    def test_no_list(self):
        self.assertEqual(ask(leftout(1), leftout(HUGE)), [[-1]] * 2)

    def test_length(self):
        self.assertEqual(ask_of(WORKED, *[leftout(n) for n in (-1, 7, -HUGE, HUGE)]), [[-3]] * 4)
        self.assertEqual(ask_of(WORKED, leftout(6)), [[0]])

    def test_more_than_ten_words(self):
        self.assertEqual(ask_of(list_text(ELEVEN[:10]), leftout(1)), [[0]])
        self.assertEqual(ask_of(list_text(ELEVEN), leftout(0), leftout(6), conflicts(1)), [[-6], [-6], [0]])

    def test_length_goes_before_how_many_words(self):
        self.assertEqual(ask_of(list_text(ELEVEN), leftout(7), leftout(-1)), [[-3]] * 2)

    def test_a_refusal_changes_nothing(self):
        self.assertEqual(ask_of(WORKED, leftout(7), leftout(1)), [[-3], [1, 2]])


class Promise2(unittest.TestCase):
    def test_without_them_none_and_with_fewer_left_out_one(self):
        most = 0
        for left, right, words in made_lists(24, 50, "ab", 6, (3, 7)):
            for n in range(4):
                told = ask_of(list_text(words, left, right), leftout(n))[0]
                most = max(most, told[0])
                self.assertEqual(self.count_without(left, right, words, told[1:], n), 0)
                for fewer in range(told[0]):
                    for chosen in itertools.combinations(range(len(words)), fewer):
                        self.assertGreater(self.count_without(left, right, words, chosen, n), 0)
        self.assertGreater(most, 2)

    def count_without(self, left, right, words, chosen, n):
        rest = [word for i, word in enumerate(words) if i not in chosen]
        return ask(load(list_text(rest, left, right)), conflicts(n))[1][0]


if __name__ == "__main__":
    unittest.main()
