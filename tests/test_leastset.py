"""Families of pieces, and the least set of them."""

import itertools
import unittest

from helper import (ask_of, keptout, list_text, made_lists, piece_text, plain_family, plain_goals, plain_least_set,
                    plain_parted)
from wordgaps.leastset import find_family, find_least_set, find_used_pieces
from wordgaps.pieces import count_bytes
from wordgaps.wordlist import read_list


def read(words, left=1, right=1):
    return read_list(list(list_text(words, left, right).encode("ascii")))


def family_texts(words, m, left=1, right=1):
    return [piece_text(piece) for piece in find_family(read(words, left, right), m)]


def used_texts(words, m):
    return [piece_text(piece) for piece in find_used_pieces(find_family(read(words), m)).values()]


def least_texts(words, m, left=1, right=1):
    found = find_least_set(read(words, left, right), m)
    return None if found is None else [piece_text(piece) for piece in found]


class Family(unittest.TestCase):
    def test_no_goal(self):
        self.assertEqual(family_texts([], 3), [])
        self.assertEqual(family_texts(["abc"], 3), [])
        # Its one break lies outside the margins.
        self.assertEqual(family_texts(["a-bc"], 3, 2, 1), [])

    def test_pieces_around_in_order(self):
        self.assertEqual(family_texts(["a-b"], 1), ["a1", ".a1", "1b", "1b."])
        self.assertEqual(family_texts(["a-b"], 3), ["a1", ".a1", "1b", "1b.", "a1b", ".a1b", "a1b.", ".a1b."])

    def test_only_good_ones(self):
        # a1 parts a second time, and 1a is good, for it parts once alone within the margins.
        self.assertEqual(family_texts(["a-ab"], 1), [".a1", "1a"])
        # In another word.
        self.assertEqual(family_texts(["xa-by", "zac"], 1), ["1b"])

    def test_what_is_outside_the_margins_is_not_parted(self):
        self.assertEqual(family_texts(["ca-b", "ab"], 1, 2, 1), ["a1", "1b", "1b."])
        self.assertEqual(family_texts(["ca-b", "ab"], 1, 1, 1), [])
        self.assertEqual(family_texts(["a-bc", "ab"], 1, 1, 2), ["a1", ".a1", "1b"])
        self.assertEqual(family_texts(["a-bc", "ab"], 1, 1, 1), [])

    def test_each_once_where_it_comes_first(self):
        self.assertEqual(family_texts(["a-b-a-b"], 1), ["a1", ".a1", "1b", "b1", "1a", "1b."])
        self.assertEqual(family_texts(["xa-by", "za-bw"], 1), ["a1", "1b"])

    def test_against_a_second_reading(self):
        for left, right, words in made_lists(51, 40, "ab", 5, (2, 6)) + made_lists(52, 30, "abc", 6, (2, 7)):
            for m in (1, 2, 3):
                family = find_family(read(words, left, right), m)
                self.assertEqual([(piece_text(piece), list(spots)) for piece, spots in family.items()],
                                 plain_family(left, right, words, m), (left, right, words))


class Used(unittest.TestCase):
    def test_fewest_bytes(self):
        # .a1 and 1a cover the one goal.
        self.assertEqual(used_texts(["a-ab"], 1), ["1a"])
        self.assertEqual(ask_of(list_text(["a-ab", "ba"]), keptout(1, 1)), [[1, 0, 1, 0]])

    def test_of_as_short_ones_the_first(self):
        self.assertEqual(used_texts(["a-b"], 1), ["a1"])
        self.assertEqual(ask_of(list_text(["a-b", "aa"]), keptout(1, 1)), [[1, 0, 1, 0]])
        self.assertEqual(ask_of(list_text(["a-b", "bb"]), keptout(1, 1)), [[1, 0, 0, 0]])

    def test_bytes_of_chunks(self):
        for piece in find_family(read(["a-b", "ca-bc", "b-cb"]), 3):
            self.assertEqual(count_bytes(piece), len(piece_text(piece)))

    def test_points_count_as_bytes(self):
        # .a1 and .a1b cover the one goal, a1 and a1b part in the other word, too.
        self.assertEqual(used_texts(["a-b", "cabd"], 2), [".a1"])

    def test_it_stands_where_the_first_one_stands(self):
        # .ab1 and 1aa cover goal 0 alone; between them stands b1a, which covers goals 0 and 2.
        words = ["ab-a-abb", "bb-ab", "aa"]
        self.assertEqual([chunk for chunk in family_texts(words, 2) if chunk in (".ab1", "b1a", "1aa")],
                         [".ab1", "b1a", "1aa"])
        self.assertEqual(used_texts(words, 2)[:2], ["1aa", "b1a"])
        self.assertEqual(least_texts(words, 2), ["1aa", "1ab"])
        self.assertEqual(ask_of(list_text(words + ["ba"]), keptout(2, 3)), [[1, 0, 0, 0]])

    def test_not_the_same_goals(self):
        self.assertEqual(used_texts(["a-b-a-b"], 1), ["a1", ".a1", "b1", "1b."])


class LeastSet(unittest.TestCase):
    def test_no_goal(self):
        self.assertEqual(least_texts([], 1), [])
        self.assertEqual(least_texts(["abc", "ca"], 3), [])

    def test_none(self):
        words = ["pxa-byq", "rxabys"]
        self.assertIsNone(least_texts(words, 1))
        self.assertIsNone(least_texts(words, 2))
        self.assertEqual(least_texts(words, 3), ["pxa1"])
        # One goal that can't be covered is enough.
        self.assertIsNone(least_texts(["g-h"] + words + ["k-l"], 2))

    def test_fewest_pieces_go_before_fewest_bytes(self):
        # 1x and 1y have 4 bytes together, .abc1 has 5.
        words = ["abc-x", "abc-y", "zabcw"]
        self.assertEqual(least_texts(words, 3), [".abc1"])
        self.assertEqual(ask_of(list_text(words + ["abcd"]), keptout(3, 3)), [[1, 0, 1, 0]])

    def test_of_as_many_the_fewest_bytes(self):
        # .b1 comes before 1a, and goes with a1, too, but it has a byte more.
        words = ["b-a-a-bb"]
        self.assertLess(used_texts(words, 1).index(".b1"), used_texts(words, 1).index("1a"))
        self.assertEqual(least_texts(words, 1), ["1a", "a1"])
        self.assertEqual(ask_of(list_text(words + ["bb"]), keptout(1, 1)), [[1, 0, 0, 0]])

    def test_of_as_little_ones_the_first(self):
        # a1 and b1, or 1b and 1a.
        self.assertEqual(least_texts(["a-b-a-a"], 1), ["a1", "b1"])
        self.assertEqual(ask_of(list_text(["a-b-a-a", "cb"]), keptout(1, 1)), [[1, 0, 0, 0]])

    def test_it_begins_at_the_lowest_goal(self):
        # The lowest goals are covered by a1 and b1, the highest by 1b and b1.
        self.assertEqual(least_texts(["a-b-a", "b-b"], 1), ["a1", "b1"])
        self.assertEqual(ask_of(list_text(["a-b-a", "b-b", "aab"]), keptout(1, 2)), [[1, 0, 2, 0]])

    def test_against_a_second_reading(self):
        lists = made_lists(53, 150, "ab", 4, (2, 6)) + made_lists(54, 60, "abc", 5, (2, 6))
        sizes = {}
        for left, right, words in lists:
            if len(plain_goals(left, right, words)) <= 9:
                for m in (1, 2, 3):
                    told = least_texts(words, m, left, right)
                    self.assertEqual(told, plain_least_set(left, right, words, m), (left, right, words))
                    sizes[None if told is None else len(told)] = True
        for size in (None, 0, 1, 2, 3, 4):
            self.assertIn(size, sizes)

    def test_no_other_set_of_the_family_is_less(self):
        for left, right, words in made_lists(55, 60, "ab", 3, (2, 5)):
            goals = plain_goals(left, right, words)
            family = [chunk for chunk, covers in plain_family(left, right, words, 2)]
            told = least_texts(words, 2, left, right)
            if told is None or len(told) > 3:
                continue
            self.assertEqual(plain_parted(left, right, words, told), goals)
            exact = [row for count in range(len(told) + 1) for row in itertools.combinations(family, count)
                     if plain_parted(left, right, words, row) == goals]
            self.assertEqual(min((len(row), len("".join(row))) for row in exact), (len(told), len("".join(told))))


if __name__ == "__main__":
    unittest.main()
