"""load: tokens, lists, the faults and their order."""

import random
import unittest

from helper import WORKED, ask, conflicts, load, plain_load

HEAD = "margins 1 1 ;"
# 24 words and 40 patterns, no two with the same letters.
WORDS = [f"{first}{second}" for first in "abcd" for second in "uvwxyz"]
PATTERNS = [f"{first}1{second}" for first in "abcde" for second in "stuvwxyz"]


def words(names):
    return "".join(f" word {name} ;" for name in names)


def patterns(names):
    return "".join(f" pattern {name} ;" for name in names)


class LoadTest(unittest.TestCase):
    def loads(self, text, *told):
        self.assertEqual(ask(load(text)), [[1, *told]], text)

    def faults(self, code, text, place):
        """The place is told as a number, or by the text before it."""
        where = place if isinstance(place, int) else len(place)
        if not isinstance(place, int):
            self.assertTrue(text.startswith(place))
        self.assertEqual(ask(load(text)), [[0, code, where]], text)


class RightLists(LoadTest):
    def test_worked(self):
        self.loads(WORKED, 3, 0)

    def test_nothing_but_margins(self):
        self.loads("margins 0 5 ;", 0, 0)
        self.loads("margins 5 0;", 0, 0)

    def test_words_and_patterns(self):
        self.loads(HEAD + words(["a-b", "ba"]) + patterns(["a1b"]), 2, 1)
        self.loads(HEAD + patterns(["a1b", "2ab"[:2]]), 0, 2)

    def test_one_form(self):
        self.loads("margins 1 2 ;\nword a-ba ;\nword ca-ba ;\npattern .1a2b3. ;\n", 2, 1)

    def test_blanks_and_remarks(self):
        self.loads("\t\n margins#;\n1\t1\n;#word a ;\nword#\nab#\n;# !\n#\n", 1, 0)
        self.loads("#\nmargins 1 1;word ab;pattern a1;pattern b1;", 1, 2)

    def test_remark_that_ends_with_the_text(self):
        self.loads(HEAD + "# word ! \xff A", 0, 0)
        self.loads(HEAD + "#", 0, 0)

    def test_remark_parts_tokens(self):
        self.faults(3, "mar#\ngins 1 1 ;", "")
        self.loads("margins#1\n1#2\n2;", 0, 0)

    def test_every_margin(self):
        for left in range(6):
            for right in range(6):
                self.loads(f"margins {left} {right} ;", 0, 0)

    def test_keywords_as_words(self):
        self.loads(HEAD + words(["margins", "word", "pattern"]), 3, 0)
        self.loads(HEAD + words(["mar-gins", "w-ord", "pat-tern"]), 3, 0)

    def test_most_words_and_patterns(self):
        self.loads(HEAD + words(WORDS) + patterns(PATTERNS), 24, 40)

    def test_word_sizes(self):
        self.loads(HEAD + words(["ab", "a-a", "a" * 16, "-".join("b" * 16)]), 4, 0)

    def test_pattern_forms(self):
        good = ["1a", "b1", "c9", "1d1", ".1e", "f1.", ".1g1.", ".h1", "1i.", "abcdef1", ".9u8v7w6x5y4z3."]
        self.loads(HEAD + patterns(good), 0, len(good))

    def test_same_letters_with_other_points(self):
        self.loads(HEAD + patterns(["a1b", ".a1b", "a1b.", ".a1b."]), 0, 4)

    def test_4096_bytes(self):
        self.loads(HEAD + " " * (4096 - len(HEAD)), 0, 0)
        self.loads(HEAD + "#" * (4096 - len(HEAD)), 0, 0)


class Faults(LoadTest):
    def test_1_too_many_bytes(self):
        self.faults(1, HEAD + " " * (4097 - len(HEAD)), 4096)
        self.faults(1, "!" * 4097, 4096)
        self.faults(1, [0] * 8192, 4096)

    def test_2_no_token(self):
        self.faults(2, HEAD + " !", HEAD + " ")
        for byte in range(256):
            if chr(byte) not in "abcdefghijklmnopqrstuvwxyz0123456789-.;# \t\n":
                self.faults(2, [*map(ord, HEAD), 32, byte, 32], len(HEAD) + 1)

    def test_2_behind_a_chunk(self):
        self.faults(2, "margins 1 1_;", "margins 1 1")
        self.faults(2, HEAD + " word aB ;", HEAD + " word a")

    def test_2_chunk_too_long(self):
        self.faults(7, HEAD + " word " + "a" * 40 + " ;", HEAD + " word ")
        self.faults(2, HEAD + " word " + "a" * 41 + " ;", HEAD + " word ")
        self.faults(2, HEAD + " " + "-.9z" * 11, HEAD + " ")
        self.faults(2, "z" * 4096, 0)

    def test_2_comes_before_what_stands_ahead(self):
        self.faults(2, "word ; ; margins !", "word ; ; margins ")
        self.faults(2, HEAD + words(["ab", "ab"]) + words(WORDS) + "?", HEAD + words(["ab", "ab"]) + words(WORDS))
        self.faults(2, "margins 9 9 ; pattern ; " + "a" * 41, "margins 9 9 ; pattern ; ")

    def test_2_the_first_of_two(self):
        self.faults(2, "! ?", 0)
        self.faults(2, "a" * 41 + "!", 0)
        self.faults(2, "! " + "a" * 41, 0)

    def test_3_at_the_end(self):
        for text in ("", "margins", "margins 1", "margins 1 1", HEAD + " word", HEAD + " word ab",
                     HEAD + " pattern", HEAD + " pattern a1"):
            self.faults(3, text, len(text))
            self.faults(3, text + " # remark", len(text) + 9)
            self.faults(3, text + "\n", len(text) + 1)

    def test_3_in_the_margins(self):
        self.faults(3, "margin 1 1 ;", "")
        self.faults(3, "; margins 1 1 ;", "")
        self.faults(3, "margins ; 1 ;", "margins ")
        self.faults(3, "margins 1 ; 1 ;", "margins 1 ")
        self.faults(3, "margins 1 1 1 ;", "margins 1 1 ")
        self.faults(3, "margins 1 1 word ab ;", "margins 1 1 ")

    def test_3_behind_the_margins(self):
        self.faults(3, HEAD + " ;", HEAD + " ")
        self.faults(3, HEAD + " ab ;", HEAD + " ")
        self.faults(3, HEAD + " margins 1 1 ;", HEAD + " ")
        self.faults(3, HEAD + " wordab ;", HEAD + " ")

    def test_3_in_words_and_patterns(self):
        self.faults(3, HEAD + " word ;", HEAD + " word ")
        self.faults(3, HEAD + " word ab cd ;", HEAD + " word ab ")
        self.faults(3, HEAD + " word ab word cd ;", HEAD + " word ab ")
        self.faults(3, HEAD + " pattern ; ;", HEAD + " pattern ")
        self.faults(3, HEAD + " pattern a1 b1 ;", HEAD + " pattern a1 ")

    def test_3_word_behind_a_pattern(self):
        self.faults(3, HEAD + patterns(["a1"]) + words(["ab"]), HEAD + patterns(["a1"]) + " ")
        ahead = HEAD + words(WORDS) + patterns(["a1"])
        self.faults(3, ahead + words(["zz"]), ahead + " ")

    def test_4_too_many(self):
        self.faults(4, HEAD + words(WORDS) + " word zz ;", HEAD + words(WORDS) + " ")
        self.faults(4, HEAD + words(WORDS) + " word", HEAD + words(WORDS) + " ")
        self.faults(4, HEAD + patterns(PATTERNS) + " pattern 1 ;", HEAD + patterns(PATTERNS) + " ")
        self.faults(4, HEAD + words(WORDS) + patterns(PATTERNS) + " pattern ;",
                    HEAD + words(WORDS) + patterns(PATTERNS) + " ")

    def test_5_word_told_before(self):
        for again in ("aba", "a-ba", "ab-a", "a-b-a"):
            self.faults(5, HEAD + words(["a-ba", "abab", again]), HEAD + words(["a-ba", "abab"]) + " word ")

    def test_5_pattern_told_before(self):
        for again in ("a1b", "1ab", "a9b", "1a1b1"):
            self.faults(5, HEAD + patterns([".a1b", "a1b", again]), HEAD + patterns([".a1b", "a1b"]) + " pattern ")
        for again in (".b1a", ".b2a3"):
            self.faults(5, HEAD + patterns([".b1a", again]), HEAD + patterns([".b1a"]) + " pattern ")
        for again in (".1ba.", ".b4a."):
            self.faults(5, HEAD + patterns([".ba1.", again]), HEAD + patterns([".ba1."]) + " pattern ")
        self.faults(5, HEAD + patterns(["b1a.", "1ba."]), HEAD + patterns(["b1a."]) + " pattern ")

    def test_5_is_not_for_a_word_and_a_pattern(self):
        self.loads(HEAD + words(["ab"]) + patterns(["ab1"]), 1, 1)

    def test_7_margins(self):
        for bad in ("6", "9", "00", "01", "a", "-", ".", "1.", "-1", "margins", "word"):
            self.faults(7, f"margins {bad} 1 ;", "margins ")
            self.faults(7, f"margins 1 {bad} ;", "margins 1 ")

    def test_7_words(self):
        for bad in ("a", "-ab", "ab-", "a--b", "-", "--", ".", "a-", "a1b", ".ab", "ab.", "a.b", "7",
                    "a" * 17, "-".join("a" * 17), "a-" * 16, "0ab"):
            self.faults(7, HEAD + f" word {bad} ;", HEAD + " word ")

    def test_7_patterns(self):
        for bad in ("a", "abcdef", "1", ".", "..", ".1.", "1.", ".1", "a0", "0a", "a0b1", "a12b", "11a", "a11",
                    "abcdefg1", ".1abcdefg.", "a.1", "1.a", "a1..", "..a1", "a.1b", "a-1b", "-a1", "a1-", "ab."):
            self.faults(7, HEAD + f" pattern {bad} ;", HEAD + " pattern ")

    def test_from_left_to_right(self):
        self.faults(7, "margins 6 ;", "margins ")
        self.faults(7, HEAD + " word a word", HEAD + " word ")
        self.faults(5, HEAD + words(["ab", "ab"]) + " word c ;", HEAD + " word ab ; word ")
        self.faults(7, HEAD + words(["ab", "c", "ab"]), HEAD + " word ab ; word ")
        self.faults(3, HEAD + " word ab pattern ; word a ;", HEAD + " word ab ")
        self.faults(5, HEAD + words(WORDS[:23] + ["au", "zz"]), HEAD + words(WORDS[:23]) + " word ")

    def test_against_a_second_reading(self):
        source = random.Random(11)
        parts = ["margins", "word", "pattern", ";", ";", "1", "5", "6", "a-b", "ab", "a1b", ".a1", "2b.", "a--b",
                 "#x\n", "a" * 41, "!", "", "abcdefghijklmnop", "1abcdef.", "-".join("abcdefghijklmnopq")]
        right = "margins 0 3 ; word ab-c ; word b-a ; pattern 1ab ; pattern .c2 ;".split(" ")
        codes = {}
        for turn in range(4000):
            made = list(right)
            for change in range(source.randint(0, 3)):
                at = source.randrange(len(made) + 1)
                made[at:at + source.randint(0, 2)] = source.choices(parts, k=source.randint(0, 2))
            text = source.choice((" ", " ", "\n", "\t ")).join(made)
            told = ask(load(text))[0]
            self.assertEqual(told, plain_load(text), text)
            codes[told[1] if told[0] == 0 else 0] = True
        self.assertEqual(sorted(codes), [0, 2, 3, 5, 7])


class WhatIsHeld(LoadTest):
    def test_a_load_that_is_not_right_leaves_the_list(self):
        for bad in ("", "!", "margins 1 6 ;", HEAD + words(["ab", "ab"]), HEAD + words(WORDS + ["zz"]), " " * 4097):
            told = ask(load(WORKED), conflicts(1), load(bad), conflicts(1))
            self.assertEqual(told[2][0], 0)
            self.assertEqual(told[3], told[1])
            self.assertEqual(told[3], [3, 1, 2, 2, 2])

    def test_a_load_that_is_not_right_leaves_none(self):
        self.assertEqual(ask(load("margins"), conflicts(1)), [[0, 3, 7], [-1]])

    def test_a_later_load_takes_the_place(self):
        told = ask(load(WORKED), load(HEAD), conflicts(1), load(WORKED), conflicts(2))
        self.assertEqual(told, [[1, 3, 0], [1, 0, 0], [0], [1, 3, 0], [1, 2, 3, 1, 3]])


if __name__ == "__main__":
    unittest.main()
