"""evidence: what the other words say of the pieces around a gap. Promise 4."""

import unittest

from helper import (HUGE, WORKED, ask, ask_of, evidence, letters_of, list_text, made_lists, pattern_gaps, piece_text,
                    plain_evidence, plain_pieces, plain_spots)
from wordgaps.pieces import find_pieces_around


class Answers(unittest.TestCase):
    def test_worked(self):
        self.assertEqual(ask_of(WORKED, evidence(1, 2, 1)), [[1, 2, 2]])

    def test_a_gap_that_may_not_be_parted(self):
        # daba, da1ba: a1 and 1b stand in a-ba and ca-ba.
        self.assertEqual(ask_of(WORKED, evidence(2, 2, 1)), [[0, 4, 0]])

    def test_the_word_itself_says_nothing(self):
        self.assertEqual(ask_of(list_text(["aa-aaa"]), evidence(0, 2, 3), evidence(0, 3, 3)), [[1, 0, 0], [0, 0, 0]])

    def test_the_same_spot_counts_for_each_piece(self):
        # At gap 2 of xabz stand a1 and 1b; up to 2 also xa1, .xa1 and a1b; up to 3 also xa1b and .xa1b.
        self.assertEqual(ask_of(list_text(["xa-by", "xab-z"]), *[evidence(0, 2, m) for m in (1, 2, 3)]),
                         [[1, 0, 2], [1, 0, 5], [1, 0, 7]])

    def test_points(self):
        # .a1 stands at a front alone, a1 everywhere; and so at an end.
        self.assertEqual(ask_of(list_text(["a-xx", "a-y", "ba-z"]), evidence(0, 1, 1)), [[1, 3, 0]])
        self.assertEqual(ask_of(list_text(["xx-a", "y-a", "z-ab"]), evidence(0, 2, 1)), [[1, 3, 0]])
        # a1, 1b and a1b stand in all three; .a1 and .a1b in a-bc, 1b. and a1b. in ca-b; .a1b. in none.
        self.assertEqual(ask_of(list_text(["a-b", "a-bc", "ca-b", "cabc"]), evidence(0, 1, 2)), [[1, 10, 3]])

    def test_only_within_the_margins(self):
        self.assertEqual(ask_of(list_text(["xxa-bxx", "a-b", "yya-byy"], 2, 1), evidence(0, 3, 1)), [[1, 2, 0]])
        self.assertEqual(ask_of(list_text(["xxa-bxx", "a-b", "yya-byy"], 1, 2), evidence(0, 3, 1)), [[1, 2, 0]])
        self.assertEqual(ask_of(list_text(["xxa-bxx", "a-b", "yya-byy"], 0, 0), evidence(0, 3, 1)), [[1, 4, 0]])

    def test_a_word_shorter_than_the_length(self):
        self.assertEqual(ask_of(list_text(["a-b", "a-bc"]), evidence(0, 1, 2), evidence(0, 1, 3)),
                         [[1, 5, 0], [1, 5, 0]])

    def test_listed_patterns_do_not_count(self):
        self.assertEqual(ask_of(WORKED + " pattern a1b ; pattern a2 ;", evidence(1, 2, 1)), [[1, 2, 2]])

    def test_against_a_second_reading(self):
        lists = made_lists(31, 25) + made_lists(32, 12, "abc", 8, (2, 10)) + made_lists(33, 2, "ab", 24, (10, 16))
        for left, right, words in lists:
            spots = plain_spots(left, right, words)
            for m in (1, 2, 3):
                told = [ask_of(list_text(words, left, right), evidence(*spot, m))[0] for spot in spots]
                self.assertEqual(told, [plain_evidence(left, right, words, spot, m) for spot in spots], words)


class PiecesAround(unittest.TestCase):
    def test_their_order(self):
        pieces = [piece_text(piece) for piece in find_pieces_around("abc", 1, 3)]
        self.assertEqual(pieces, ["a1", ".a1", "1b", "a1b", ".a1b", "1bc", "1bc.", "a1bc", ".a1bc", "a1bc.", ".a1bc."])

    def test_each_stands_there_and_none_is_missed(self):
        for letters in ("ab", "aba", "aaaa", "abab", "abcab"):
            for gap in range(1, len(letters)):
                for m in (1, 2, 3):
                    pieces = [piece_text(piece) for piece in find_pieces_around(letters, gap, m)]
                    self.assertEqual(len(set(pieces)), len(pieces))
                    self.assertEqual(sorted(pieces), sorted(plain_pieces(letters, gap, m)))


class Refusals(unittest.TestCase):
    def test_no_list(self):
        self.assertEqual(ask(evidence(0, 1, 1), evidence(-1, 0, 9)), [[-1]] * 2)

    def test_length(self):
        self.assertEqual(ask_of(WORKED, *[evidence(1, 2, m) for m in (0, 4, -1, -HUGE, HUGE)]), [[-3]] * 5)
        self.assertEqual([told[0] for told in ask_of(WORKED, *[evidence(1, 2, m) for m in (1, 2, 3)])], [1] * 3)

    def test_no_such_word(self):
        self.assertEqual(ask_of(WORKED, *[evidence(i, 1, 1) for i in (3, -1, HUGE, -HUGE)]), [[-2]] * 4)
        self.assertEqual(ask_of("margins 0 0 ;", evidence(0, 1, 1)), [[-2]])

    def test_no_such_gap(self):
        self.assertEqual(ask_of(WORKED, *[evidence(1, g, 1) for g in (0, 4, 5, -1, HUGE, -HUGE)]), [[-2]] * 6)
        self.assertEqual(ask_of(list_text(["a-b-c-d"], 0, 0), *[evidence(0, g, 1) for g in range(5)]),
                         [[-2], [1, 0, 0], [1, 0, 0], [1, 0, 0], [-2]])

    def test_no_spot_outside_the_margins(self):
        text = list_text(["a-b-c-d-e-f"], 2, 3)
        self.assertEqual([told[0] for told in ask_of(text, *[evidence(0, g, 1) for g in range(7)])],
                         [-2, -2, 1, 1, -2, -2, -2])
        text = list_text(["abcdefghij", "abcdefghi"], 5, 5)
        self.assertEqual(ask_of(text, evidence(0, 4, 1), evidence(0, 5, 1), evidence(0, 6, 1), evidence(1, 5, 1)),
                         [[-2], [0, 0, 0], [-2], [-2]])

    def test_length_goes_before_the_spot(self):
        self.assertEqual(ask_of(WORKED, evidence(9, 9, 0), evidence(-1, -1, 4)), [[-3]] * 2)

    def test_a_refusal_changes_nothing(self):
        self.assertEqual(ask_of(WORKED, evidence(9, 9, 1), evidence(1, 2, 1)), [[-2], [1, 2, 2]])


class Promise4(unittest.TestCase):
    def test_other_words_alone_have_a_say(self):
        # What the word itself tells of its other gaps is nothing to the evidence for one of them.
        for word in ("ab-abab", "aba-bab", "a-bab-ab"):
            told = ask_of(list_text([word, "xab-y", "ba-b"]), *[evidence(0, 2, m) for m in (1, 2, 3)])
            self.assertEqual([answer[1:] for answer in told],
                             [plain_evidence(1, 1, ["ab-abab", "xab-y", "ba-b"], (0, 2), m)[1:] for m in (1, 2, 3)])

    def test_a_word_more_adds_just_what_it_says(self):
        words = ["ab-ab", "aab-b", "b-aba"]
        for more in ("ab-a", "aba-bb", "bbbb", "xy-z"):
            for m in (1, 2, 3):
                before = ask_of(list_text(words), evidence(0, 2, m))[0]
                behind = ask_of(list_text(words + [more]), evidence(0, 2, m))[0]
                says = [0, 0]
                for piece in plain_pieces("abab", 2, m):
                    for gap, digit in pattern_gaps(piece, letters_of(more)):
                        if 0 < gap < len(letters_of(more)):
                            says[0 if gap == more.find("-") else 1] += 1
                self.assertEqual(behind, [1, before[1] + says[0], before[2] + says[1]], (more, m))


if __name__ == "__main__":
    unittest.main()
