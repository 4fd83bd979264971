"""doubts: the spots of which the other words say otherwise than the list. Promise 4."""

import unittest

from helper import (HUGE, WORKED, ask, ask_of, doubts, evidence, list_text, load, made_lists, plain_doubts,
                    plain_spots)

TEN = [f"{first}{second}" for first in "ab" for second in "vwxyz"]


class Answers(unittest.TestCase):
    def test_worked(self):
        self.assertEqual(ask_of(WORKED, doubts(1)), [[2, 2, 3, 7, 2, 2, 4]])

    def test_no_words_and_one_word(self):
        self.assertEqual(ask_of("margins 0 0 ;", doubts(1)), [[0]])
        self.assertEqual(ask_of(list_text(["aa-aaa"], 0, 0), *[doubts(m) for m in (1, 2, 3)]), [[0]] * 3)

    def test_nothing_doubted(self):
        self.assertEqual(ask_of(list_text(["xa-by", "za-bw"]), *[doubts(m) for m in (1, 2, 3)]), [[0]] * 3)

    def test_doubted_alike_stay_in_order(self):
        self.assertEqual(ask_of(list_text(["xa-by", "xabz"]), doubts(1)), [[2, 0, 2, 2, 1, 2, 2]])
        self.assertEqual(ask_of(list_text(["xaby", "xa-bz"]), doubts(1)), [[2, 0, 2, 2, 1, 2, 2]])
        # Two in one word, by their gaps, though the first is doubted for what it is not and the second for what it is.
        self.assertEqual(ask_of(list_text(["abcd-ef", "xa-by", "ydez"]), doubts(1)),
                         [[4, 0, 1, 2, 0, 4, 2, 1, 2, 2, 2, 2, 2]])

    def test_those_doubted_most_first(self):
        # ab is parted in two words and not in the first: it is doubted by both, each of them by neither.
        self.assertEqual(ask_of(list_text(["xabq", "ya-bz", "cd-ef", "wa-bv", "gdeh"]), doubts(1)),
                         [[3, 0, 2, 4, 2, 2, 2, 4, 2, 2]])
        self.assertEqual(ask_of(list_text(["cd-ef", "gdeh", "ya-bz", "xabq", "wa-bv"]), doubts(1)),
                         [[3, 3, 2, 4, 0, 2, 2, 1, 2, 2]])

    def test_as_much_on_either_side_is_not_told(self):
        # For each of the two that are parted one word says so and one says otherwise.
        self.assertEqual(ask_of(list_text(["xa-by", "xabz", "ya-bz"]), doubts(1)), [[1, 1, 2, 4]])
        self.assertEqual(ask_of(list_text(["xa-by", "xabz", "ya-bz"]), evidence(0, 2, 1), evidence(2, 2, 1)),
                         [[1, 2, 2], [1, 2, 2]])
        # And so for the two that are not.
        self.assertEqual(ask_of(list_text(["xaby", "xa-bz", "yabz"]), doubts(1)), [[1, 1, 2, 4]])

    def test_by_one(self):
        self.assertEqual(ask_of(list_text(["a-x", "yaz"]), doubts(1)), [[2, 0, 1, 1, 1, 2, 1]])
        # Two words say a-, and two say ba- and ab: the one is doubted by two, the other by one.
        self.assertEqual(ask_of(list_text(["xa-b", "ya-c", "zad"]), doubts(1)), [[1, 2, 2, 2]])

    def test_margins(self):
        for left in range(4):
            for right in range(4):
                words = ["a-bab", "ab-ab-a", "b-ab"]
                self.assertEqual(ask_of(list_text(words, left, right), doubts(2)),
                                 [plain_doubts(left, right, words, 2)])

    def test_listed_patterns_do_not_count(self):
        self.assertEqual(ask_of(WORKED + " pattern a1b ; pattern a2 ;", doubts(1)), [[2, 2, 3, 7, 2, 2, 4]])

    def test_as_evidence_says(self):
        for left, right, words in made_lists(41, 30, "ab", 6, (3, 7)):
            for m in (1, 2, 3):
                told = ask_of(list_text(words, left, right), doubts(m))[0]
                spots = [(told[at], told[at + 1]) for at in range(1, len(told), 3)]
                self.assertEqual(len(spots), told[0])
                for spot in plain_spots(left, right, words):
                    may, says_for, says_against = ask_of(list_text(words, left, right), evidence(*spot, m))[0]
                    more = says_against - says_for if may else says_for - says_against
                    self.assertEqual(spot in spots, more > 0)
                    if more > 0:
                        self.assertEqual(told[3 + 3 * spots.index(spot)], more)

    def test_against_a_second_reading(self):
        lists = made_lists(42, 50) + made_lists(43, 30, "abc", 10, (2, 9)) + made_lists(44, 3, "aab", 10, (12, 16))
        for left, right, words in lists:
            self.assertEqual(ask_of(list_text(words, left, right), *[doubts(m) for m in (1, 2, 3)]),
                             [plain_doubts(left, right, words, m) for m in (1, 2, 3)], (left, right, words))


class Refusals(unittest.TestCase):
    def test_no_list(self):
        self.assertEqual(ask(doubts(1), doubts(0), doubts(HUGE)), [[-1]] * 3)
        self.assertEqual(ask(load("margins"), doubts(1))[1], [-1])

    def test_length(self):
        self.assertEqual(ask_of(WORKED, *[doubts(m) for m in (0, 4, -1, HUGE, -HUGE)]), [[-3]] * 5)
        self.assertEqual([told[0] for told in ask_of(WORKED, *[doubts(m) for m in (1, 2, 3)])], [2, 2, 2])

    def test_too_many_words(self):
        self.assertEqual(len(TEN), 10)
        self.assertEqual(ask_of(list_text(TEN), *[doubts(m) for m in (1, 2, 3)]), [[0]] * 3)
        self.assertEqual(ask_of(list_text(TEN + ["zz"]), *[doubts(m) for m in (1, 2, 3)]), [[-6]] * 3)

    def test_length_goes_before_too_many_words(self):
        self.assertEqual(ask_of(list_text(TEN + ["zz"]), doubts(0), doubts(4)), [[-3]] * 2)

    def test_a_refusal_changes_nothing(self):
        self.assertEqual(ask_of(WORKED, doubts(9), doubts(1)), [[-3], [2, 2, 3, 7, 2, 2, 4]])


if __name__ == "__main__":
    unittest.main()
