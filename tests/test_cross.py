"""cross: each word is kept out once, and all is told together. Promise 5."""

import unittest

from helper import HUGE, WORKED, ask, ask_of, cross, keptout, list_text, load, made_lists, plain_cross

NINE = "a-b-c-d-e-f-g-h-i-j"
TEN = NINE + "-k"
SIX = ["pq", "qr", "rs", "st", "tu", "uv"]


class Answers(unittest.TestCase):
    def test_worked(self):
        self.assertEqual(ask_of(WORKED, cross(3)), [[0, 3, 0, 1, 3]])

    def test_no_words(self):
        self.assertEqual(ask_of("margins 0 0 ;", cross(1)), [[0, 0, 0, 0, 0]])

    def test_one_word(self):
        self.assertEqual(ask_of(list_text(["abc"]), cross(1)), [[1, 1, 0, 0, 0]])
        self.assertEqual(ask_of(list_text(["a-b-c"]), cross(1)), [[0, 1, 0, 0, 2]])

    def test_words_without_fault_and_miss(self):
        # Each one learns a1 from the other.
        self.assertEqual(ask_of(list_text(["a-b", "xa-y"]), cross(1)), [[2, 2, 2, 0, 0]])
        # A fault alone, and a miss alone: neither is without fault and miss.
        self.assertEqual(ask_of(list_text(["a-b", "xay"]), cross(1)), [[0, 2, 0, 1, 1]])
        # A word that is neither parted nor to be parted is exact, too.
        self.assertEqual(ask_of(list_text(["a-b", "xa-y", "cc"]), cross(1)), [[3, 3, 2, 0, 0]])

    def test_words_that_can_not_be_told_of(self):
        # Without c-d or ee the first two speak against each other.
        self.assertEqual(ask_of(list_text(["xa-by", "zabw", "c-d", "ee"]), cross(1)), [[0, 2, 0, 1, 1]])
        self.assertEqual(ask_of(list_text(["xa-by", "zabw", "ua-bw", "wabu"]), cross(1)), [[0, 0, 0, 0, 0]])

    def test_all_hits_faults_and_misses(self):
        words = ["a-ba-c", "xa-y", "yay", "d-e"]
        told = ask_of(list_text(words), *[keptout(2, i) for i in range(4)], cross(2))
        self.assertEqual([answer[0] for answer in told[:4]], [1] * 4)
        self.assertEqual(told[4][2:], [sum(answer[k] for answer in told[:4]) for k in (1, 2, 3)])
        self.assertEqual(told[4], plain_cross(1, 1, words, 2))

    def test_listed_patterns_do_not_count(self):
        self.assertEqual(ask_of(WORKED + " pattern a1b ; pattern a2 ;", cross(3)), [[0, 3, 0, 1, 3]])

    def test_against_a_second_reading(self):
        lists = made_lists(71, 40, "ab", 6, (2, 5)) + made_lists(72, 40, "abc", 7, (2, 5))
        lists += made_lists(73, 20, "abcdef", 6, (2, 5))
        for left, right, words in lists:
            self.assertEqual(ask_of(list_text(words, left, right), *[cross(m) for m in (1, 2, 3)]),
                             [plain_cross(left, right, words, m) for m in (1, 2, 3)], (left, right, words))


class Refusals(unittest.TestCase):
    def test_no_list(self):
        self.assertEqual(ask(cross(1), cross(0), cross(HUGE)), [[-1]] * 3)
        self.assertEqual(ask(load("margins"), cross(1))[1], [-1])

    def test_length(self):
        self.assertEqual(ask_of(WORKED, *[cross(m) for m in (0, 4, -1, HUGE, -HUGE)]), [[-3]] * 5)
        self.assertEqual([len(told) for told in ask_of(WORKED, cross(1), cross(2), cross(3))], [5] * 3)

    def test_too_many_words(self):
        self.assertEqual(ask_of(list_text(SIX), *[cross(m) for m in (1, 2, 3)]), [[6, 6, 0, 0, 0]] * 3)
        self.assertEqual(ask_of(list_text(SIX + ["vw"]), *[cross(m) for m in (1, 2, 3)]), [[-6]] * 3)

    def test_too_many_goals(self):
        self.assertEqual(ask_of(list_text([NINE]), *[cross(m) for m in (1, 2, 3)]), [[0, 1, 0, 0, 9]] * 3)
        self.assertEqual(ask_of(list_text([TEN]), *[cross(m) for m in (1, 2, 3)]), [[-6]] * 3)
        # Of all words together, though without any one of them there are fewer.
        five = ["a-b-c-d-e-f", "m-n-o-p-q-r"]
        self.assertEqual(ask_of(list_text(five), cross(1)), [[-6]])
        self.assertEqual(ask_of(list_text(["abcd", "m-n-o-p-q-r", "w-x-y-z-t"]), cross(1)), [[1, 3, 0, 0, 9]])

    def test_breaks_outside_the_margins_are_no_goals(self):
        self.assertEqual(ask_of(list_text([TEN], 2, 1), cross(1)), [[0, 1, 0, 0, 9]])
        self.assertEqual(ask_of(list_text([TEN], 1, 2), cross(1)), [[0, 1, 0, 0, 9]])

    def test_their_order(self):
        self.assertEqual(ask_of(list_text(SIX + ["vw"]), cross(0), cross(4)), [[-3]] * 2)
        self.assertEqual(ask_of(list_text([TEN]), cross(0), cross(4)), [[-3]] * 2)

    def test_a_refusal_changes_nothing(self):
        self.assertEqual(ask_of(WORKED, cross(9), cross(3)), [[-3], [0, 3, 0, 1, 3]])


if __name__ == "__main__":
    unittest.main()
