"""keptout: a word parted by what is learned from the others. Promise 5."""

import itertools
import unittest

from helper import (HUGE, WORKED, ask, ask_of, conflicts, keptout, letters_of, list_text, load, made_lists,
                    plain_keptout, plain_least_set, plain_parted)

NINE = "a-b-c-d-e-f-g-h-i-j"
TEN = NINE + "-k"


def with_breaks(letters, gaps):
    return "".join(("-" if gap in gaps else "") + sign for gap, sign in enumerate(letters))


class Answers(unittest.TestCase):
    def test_worked(self):
        self.assertEqual(ask_of(WORKED, keptout(2, 0), keptout(3, 0)), [[0], [1, 0, 0, 1]])

    def test_hits_faults_and_misses(self):
        # a1 is learned from the first word.
        self.assertEqual(ask_of(list_text(["a-b", "xa-y"]), keptout(1, 1)), [[1, 1, 0, 0]])
        self.assertEqual(ask_of(list_text(["a-b", "xay"]), keptout(1, 1)), [[1, 0, 1, 0]])
        self.assertEqual(ask_of(list_text(["a-b", "x-y"]), keptout(1, 1)), [[1, 0, 0, 1]])
        self.assertEqual(ask_of(list_text(["a-b", "xy"]), keptout(1, 1)), [[1, 0, 0, 0]])
        self.assertEqual(ask_of(list_text(["a-b", "xa-ca-caca-ccc-c-c"]), keptout(1, 1)), [[1, 3, 1, 2]])

    def test_others_without_a_goal(self):
        for words in (["ab-ab"], ["ab-ab", "aab", "bb"]):
            self.assertEqual(ask_of(list_text(words), *[keptout(m, 0) for m in (1, 2, 3)]), [[1, 0, 0, 1]] * 3)
        self.assertEqual(ask_of(list_text(["abab", "aab"]), keptout(1, 0)), [[1, 0, 0, 0]])
        # The other's break lies outside the margins.
        self.assertEqual(ask_of(list_text(["xxa-bxx", "a-b"], 2, 2), keptout(1, 0)), [[1, 0, 0, 1]])

    def test_others_without_a_least_set(self):
        words = ["pxa-byq", "rxabys", "c-d"]
        self.assertEqual(ask_of(list_text(words), *[keptout(m, 2) for m in (1, 2, 3)]), [[0], [0], [1, 0, 0, 1]])
        # Without either of the two that speak against each other there is one.
        self.assertEqual(ask_of(list_text(words), keptout(1, 0), keptout(1, 1)), [[1, 0, 0, 1], [1, 0, 1, 0]])

    def test_no_part_of_the_word_itself(self):
        # Against aa itself a1 would not be good.
        self.assertEqual(ask_of(list_text(["a-b", "aa"]), keptout(1, 1)), [[1, 0, 1, 0]])
        # Nor does it speak against itself.
        self.assertEqual(ask_of(list_text(["xa-by", "zabw"]), keptout(1, 0), keptout(1, 1)),
                         [[1, 0, 0, 1], [1, 0, 1, 0]])

    def test_every_word_of_a_list(self):
        words = ["a-b", "xa-y", "bab"]
        self.assertEqual(ask_of(list_text(words), *[keptout(2, i) for i in range(3)]),
                         [plain_keptout(1, 1, words, 2, i) for i in range(3)])

    def test_points_hold_in_the_word(self):
        # .a1 is learned, a1 being wrong in the second word.
        words = ["a-b", "cabd"]
        self.assertEqual(ask_of(list_text(words + ["a-ca"]), keptout(2, 2)), [[1, 1, 0, 0]])
        self.assertEqual(ask_of(list_text(words + ["ca-c"]), keptout(2, 2)), [[1, 0, 0, 1]])
        # And so 1b. behind.
        words = ["dca-b", "cabd", "da"]
        self.assertEqual(ask_of(list_text(words + ["c-b", "cbc"]), keptout(1, 3)),
                         [plain_keptout(1, 1, words + ["c-b", "cbc"], 1, 3)])

    def test_margins(self):
        # a1 is learned; hits, faults and misses lie within the margins alone.
        words = ["xxxa-xxx", "ad-aa-a-caddd-d"]
        for left in range(6):
            for right in range(6):
                self.assertEqual(ask_of(list_text(words, left, right), keptout(1, 1)),
                                 [plain_keptout(left, right, words, 1, 1)], (left, right))
        self.assertEqual(ask_of(list_text(words, 3, 3), keptout(1, 1)), [[1, 2, 2, 0]])

    def test_listed_patterns_do_not_count(self):
        text = WORKED + " pattern a1b ; pattern b1a ;"
        self.assertEqual(ask_of(text, keptout(2, 0), keptout(3, 0)), [[0], [1, 0, 0, 1]])

    def test_the_list_stays(self):
        told = ask_of(WORKED, conflicts(1), keptout(3, 0), keptout(3, 2), conflicts(1), keptout(3, 0))
        self.assertEqual(told[0], told[3])
        self.assertEqual(told[1], told[4])

    def test_against_a_second_reading(self):
        lists = made_lists(61, 60, "ab", 5, (2, 6)) + made_lists(62, 60, "abc", 6, (2, 6))
        lists += made_lists(63, 20, "abcde", 8, (2, 6))
        kinds = {}
        for left, right, words in lists:
            for m in (1, 2, 3):
                calls = [keptout(m, i) for i in range(len(words))]
                told = ask_of(list_text(words, left, right), *calls)
                self.assertEqual(told, [plain_keptout(left, right, words, m, i) for i in range(len(words))], words)
                for answer in told:
                    kinds[tuple(min(number, 1) for number in answer)] = True
        # No least set, too many goals, and hits, faults and misses in every way.
        self.assertEqual(sorted(kinds),
                         sorted([(0,), (-6,)] + [(1,) + row for row in itertools.product((0, 1), repeat=3)]))


class Refusals(unittest.TestCase):
    def test_no_list(self):
        self.assertEqual(ask(keptout(1, 0), keptout(0, 0), keptout(HUGE, -HUGE)), [[-1]] * 3)
        self.assertEqual(ask(load("margins"), keptout(1, 0))[1], [-1])

    def test_length(self):
        self.assertEqual(ask_of(WORKED, *[keptout(m, 0) for m in (0, 4, -1, HUGE, -HUGE)]), [[-3]] * 5)
        self.assertEqual(ask_of(WORKED, *[keptout(m, 0) for m in (1, 2, 3)]), [[0], [0], [1, 0, 0, 1]])

    def test_no_such_word(self):
        self.assertEqual(ask_of(WORKED, *[keptout(1, i) for i in (3, -1, HUGE, -HUGE)]), [[-2]] * 4)
        self.assertEqual(ask_of(WORKED, keptout(3, 2))[0][0], 1)
        self.assertEqual(ask_of("margins 0 0 ;", keptout(1, 0)), [[-2]])

    def test_too_many_goals(self):
        self.assertEqual(ask_of(list_text(["xy", NINE]), *[keptout(m, 0) for m in (1, 2, 3)]), [[1, 0, 0, 0]] * 3)
        self.assertEqual(ask_of(list_text(["xy", TEN]), *[keptout(m, 0) for m in (1, 2, 3)]), [[-6]] * 3)
        self.assertEqual(ask_of(list_text(["xy", NINE, "k-l"]), keptout(1, 0)), [[-6]])

    def test_the_goals_of_the_word_itself_are_not_too_many(self):
        self.assertEqual(ask_of(list_text([TEN, "x-y"]), keptout(1, 0), keptout(1, 1)), [[1, 0, 0, 10], [-6]])

    def test_breaks_outside_the_margins_are_no_goals(self):
        self.assertEqual(ask_of(list_text(["xy", TEN], 2, 1), keptout(1, 0)), [[1, 0, 0, 0]])
        self.assertEqual(ask_of(list_text(["xy", TEN], 1, 2), keptout(1, 0)), [[1, 0, 0, 0]])

    def test_their_order(self):
        text = list_text([NINE, "k-l"])
        self.assertEqual(ask_of(text, keptout(0, 2), keptout(4, -1)), [[-3]] * 2)
        self.assertEqual(ask_of(text + " word no-w ;", keptout(0, 2), keptout(4, 2)), [[-3]] * 2)
        self.assertEqual(ask_of(text + " word no-w ;", keptout(1, 3), keptout(1, -1), keptout(1, 2)),
                         [[-2], [-2], [-6]])

    def test_a_refusal_changes_nothing(self):
        self.assertEqual(ask_of(WORKED, keptout(9, 0), keptout(1, 9), keptout(3, 0)), [[-3], [-2], [1, 0, 0, 1]])


class Promise5(unittest.TestCase):
    def test_its_breaks_do_not_matter(self):
        """Whatever the kept out word's breaks are, it is parted at the same gaps: those that its others tell."""
        parted_somewhere = 0
        for left, right, words in made_lists(64, 25, "ab", 4, (4, 5)):
            for i in range(len(words)):
                letters = letters_of(words[i])
                others = words[:i] + words[i + 1:]
                chosen = plain_least_set(left, right, others, 2)
                parted = [] if chosen is None else [g for w, g in plain_parted(left, right, [letters], chosen)]
                parted_somewhere += len(parted)
                for count in range(len(letters)):
                    for gaps in itertools.combinations(range(1, len(letters)), count):
                        goals = [g for g in gaps if left <= g <= len(letters) - right]
                        hits = len([g for g in parted if g in goals])
                        now = [0] if chosen is None else [1, hits, len(parted) - hits, len(goals) - hits]
                        changed = words[:i] + [with_breaks(letters, gaps)] + words[i + 1:]
                        self.assertEqual(ask_of(list_text(changed, left, right), keptout(2, i)), [now])
        self.assertGreater(parted_somewhere, 20)

    def test_its_place_in_the_list_does_not_matter(self):
        for left, right, words in made_lists(65, 30, "ab", 5, (3, 5)):
            for word in ("abba-b", "b-aab-ab"):
                for m in (1, 2, 3):
                    told = [ask_of(list_text(words[:i] + [word] + words[i:], left, right), keptout(m, i))[0]
                            for i in range(len(words) + 1) if letters_of(word) not in map(letters_of, words)]
                    self.assertLessEqual(len(set(map(tuple, told))), 1)


if __name__ == "__main__":
    unittest.main()
