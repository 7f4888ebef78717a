"""Letters, alphabets, words, names, and how texts are cut."""

import itertools
import unittest

from semirail.limits import DEEP, LONG, MOST
from semirail.words import (cuts, is_alphabet, is_letter, is_name, is_whole, is_word, number_in, rows_of, shortlex,
                            words_to)
from tests.samples import ODD, refusal


class LooksTest(unittest.TestCase):
    def test_limits(self):
        self.assertEqual((MOST, DEEP, LONG), (300, 60, 60))

    def test_is_whole(self):
        for thing in (0, 3, 7):
            self.assertIs(is_whole(thing, 0, 7), True)
        for thing in (-1, 8, True, False, None, "3", b"3", [3], (3,), {3: 3}, {3}):
            self.assertIs(is_whole(thing, 0, 7), False)
        self.assertIs(is_whole(thing=-5, least=-5, most=-5), True)
        self.assertIs(is_whole(True, 1, 1), False)
        self.assertIs(is_whole(3, 4, 2), False)
        self.assertIs(is_whole(10 ** 3000, 10 ** 3000, 10 ** 3000), True)

    def test_is_letter(self):
        for thing in "abmyz":
            self.assertIs(is_letter(thing), True)
        for thing in ["", "aa", "A", "Z", "`", "{", "0", " ", "\n", "a\n"]:
            self.assertIs(is_letter(thing), False)
        self.assertIs(is_letter(thing="q"), True)

    def test_is_alphabet(self):
        for thing in ["a", "z", "ab", "az", "abcdef", "uvwxyz"]:
            self.assertIs(is_alphabet(thing), True)
        for thing in ["", "abcdefg", "ba", "aa", "abb", "aB", "a b", "ab\n", "a0"]:
            self.assertIs(is_alphabet(thing), False)
        self.assertIs(is_alphabet(thing="xyz"), True)

    def test_is_word(self):
        self.assertIs(is_word("ab", ""), True)
        self.assertIs(is_word("ab", "abba"), True)
        self.assertIs(is_word("ab", "abc"), False)
        self.assertIs(is_word("ab", "a" * 60), True)
        self.assertIs(is_word("ab", "a" * 61), False)
        self.assertIs(is_word("ab", "a" * 61, long=61), True)
        self.assertIs(is_word("ab", "aa", long=1), False)
        self.assertIs(is_word("ab", "", long=0), True)
        self.assertIs(is_word("ab", "a", long=0), False)
        self.assertIs(is_word("ab", "ab" * 9000, long=None), True)
        self.assertIs(is_word("ab", "ab" * 9000 + "c", long=None), False)
        self.assertIs(is_word(alphabet="a", thing="a", long=1), True)
        self.assertIs(is_word("ab", "a b"), False)
        self.assertIs(is_word("ab", "A"), False)

    def test_long_stands_behind_a_star(self):
        with self.assertRaises(TypeError):
            is_word("ab", "a", 1)

    def test_is_name(self):
        for thing in ["a", "zz", "abcdefgh", "same"]:
            self.assertIs(is_name(thing), True)
        for thing in ["", "abcdefghi", "A", "a1", "a b", "a\n", "-"]:
            self.assertIs(is_name(thing), False)
        self.assertIs(is_name(thing="x"), True)

    def test_things_of_other_kinds(self):
        for thing in ODD:
            if not isinstance(thing, str):
                for look in (is_letter, is_alphabet, is_name):
                    self.assertIs(look(thing), False)
                self.assertIs(is_word("ab", thing), False)
                self.assertIs(is_word("ab", thing, long=None), False)
            if not isinstance(thing, int):
                self.assertIs(is_whole(thing, 0, 9), False)


class WordsTest(unittest.TestCase):
    def test_shortlex(self):
        words = ["b", "ab", "", "aaa", "b", "a", "", "ba"]
        self.assertEqual(shortlex(words), ["", "", "a", "b", "b", "ab", "ba", "aaa"])
        self.assertEqual(words, ["b", "ab", "", "aaa", "b", "a", "", "ba"])
        self.assertEqual(shortlex(words=[]), [])

    def test_words_to(self):
        self.assertEqual(words_to("ab", 0), [""])
        self.assertEqual(words_to("ab", 2), ["", "a", "b", "aa", "ab", "ba", "bb"])
        self.assertEqual(words_to(alphabet="z", length=60), ["z" * long for long in range(61)])
        for alphabet, length in [("abc", 6), ("ab", 9), ("abcdef", 4)]:
            wanted = ["".join(row) for long in range(length + 1) for row in itertools.product(alphabet, repeat=long)]
            self.assertEqual(words_to(alphabet, length), wanted)
            self.assertEqual(shortlex(wanted[::-1]), wanted)
            self.assertEqual(refusal(words_to, alphabet, length + 1)[0], "BadNumber")

    def test_words_to_refuses(self):
        for length in [-1, 61, 10 ** 50, True, None, "1", [1], (1,), b"1"]:
            self.assertEqual(refusal(words_to, "a", length)[0], "BadNumber")
            self.assertEqual(refusal(words_to, "ba", length)[0], "BadWord")
        for length in [10, 11, 60]:
            self.assertEqual(refusal(words_to, "ab", length)[0], "BadNumber")
        for thing in ODD:
            if thing not in ("a", "ab"):
                self.assertEqual(refusal(words_to, thing, 1)[0], "BadWord", thing)

    def test_told_lists_are_the_askers_own(self):
        told = words_to("ab", 1)
        told.append("x")
        self.assertEqual(words_to("ab", 1), ["", "a", "b"])

    def test_cuts(self):
        self.assertEqual(cuts(""), [("", "")])
        self.assertEqual(cuts(word="abc"), [("", "abc"), ("a", "bc"), ("ab", "c"), ("abc", "")])


class TextsTest(unittest.TestCase):
    def test_number_in(self):
        for number in [0, 7, -7, 10, -100, 12345678901234567890, 10 ** 3999, -10 ** 3999]:
            self.assertEqual(number_in(str(number)), number)
        self.assertEqual(number_in(word="42"), 42)
        for word in ["", "-", "-0", "007", "00", "-07", "+7", "--7", "7-", "1 2", " 1", "1 ", "1\n", "1_0", "1.0", "0x1",
                     "a", "one", "\u00b2", "\u0663", "0" * 50]:
            self.assertIsNone(number_in(word), word)

    def test_number_in_of_what_is_no_text(self):
        for thing in ODD:
            if thing != "0":
                self.assertIsNone(number_in(thing), thing)

    def test_rows_of(self):
        self.assertEqual(rows_of(""), [None])
        self.assertEqual(rows_of("a"), [["a"]])
        self.assertEqual(rows_of("a b\n\nc"), [["a", "b"], None, ["c"]])
        self.assertEqual(rows_of("a\n"), [["a"], None])
        self.assertEqual(rows_of("\n"), [None, None])
        self.assertEqual(rows_of(text=" a\na \na  b\n \na b c"), [None, None, None, None, ["a", "b", "c"]])

    def test_rows_are_the_askers_own(self):
        rows_of("a b")[0].append("c")
        self.assertEqual(rows_of("a b"), [["a", "b"]])


if __name__ == "__main__":
    unittest.main()
