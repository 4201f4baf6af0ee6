"""Points 10 and 13: names, kept words, and the sorts of words."""

import unittest

from odd_values import odd_values
from stopanywhere.errors import BadText, BadWord
from stopanywhere.texts import words_of
from stopanywhere.words import KEPT, is_name, sort_of

SIGNS = "( ) { } , : = | + - * < <= ==".split()


class Names(unittest.TestCase):
    def test_kept_words(self):
        told = (
            "and, at, choice, else, fail, false, function, if, let, long, make, match, new, not, number, of, or, over, "
            "put, rest, return, row, set, show, true, truth, try, unit, uses, while"
        )
        self.assertEqual(KEPT, tuple(told.split(", ")))
        self.assertEqual(KEPT, tuple(sorted(KEPT)))

    def test_lengths(self):
        self.assertTrue(is_name("a"))
        self.assertTrue(is_name("abcdefgh"))
        self.assertTrue(is_name("z"))
        self.assertFalse(is_name(""))
        self.assertFalse(is_name("abcdefghi"))

    def test_no_kept_word_is_a_name_and_words_of_trees_are(self):
        for word in KEPT:
            self.assertFalse(is_name(word), word)
        for word in ("plus", "minus", "times", "less", "atmost", "same", "call", "name", "end", "figures", "strange"):
            self.assertTrue(is_name(word), word)

    def test_other_characters(self):
        for word in ("A", "aB", "a1", "a_", "_", "a b", " a", "a ", "a\n", "\n", "-a", "1", "\u00e9", "a\u00e9"):
            self.assertFalse(is_name(word), word)

    def test_any_value(self):
        for thing in odd_values():
            self.assertEqual(is_name(thing), isinstance(thing, str) and thing in ("a", "is"), repr(thing))
        self.assertTrue(is_name(thing="a"))


class Sorts(unittest.TestCase):
    def test_kept_words_and_signs_are_their_own_sorts(self):
        for word in list(KEPT) + SIGNS:
            self.assertEqual(sort_of(word), word)

    def test_names_and_figures(self):
        for word in ("a", "abcdefgh", "plus"):
            self.assertEqual(sort_of(word), "name")
        for word in ("0", "7", "10", "-1", "-10", "123456789012", "-123456789012"):
            self.assertEqual(sort_of(word), "figures")

    def test_strange_words(self):
        told = ("007", "-0", "Abc", "a1", "abcdefghi", "$", "00", "-01", "-1a", "1a", "_", "a_b", "-1_", ">", ".", ";")
        for word in told + ("!", '"', "'", "#", "&", "/", "?", "@", "[", "\\", "]", "^", "`", "~", "IF"):
            self.assertEqual(sort_of(word), "strange", word)

    def test_what_is_no_word(self):
        for thing in ("", " ", "\n", "a b", " a", "a ", "a\n", "%", "a%", "\t", "\u00e9", "=<", "===", "<==", "-a", "--",
                      "a-5", "a-", "()", "-", "- 5"):
            if thing == "-":
                self.assertEqual(sort_of(word=thing), "-")
            else:
                self.assertRaises(BadWord, sort_of, thing)
        for thing in odd_values():
            if not isinstance(thing, str):
                self.assertRaises(BadWord, sort_of, thing)


class WordsOfTexts(unittest.TestCase):
    def told(self, text):
        return [word for word, _, _ in words_of(text)]

    def test_minus_signs(self):
        self.assertEqual(self.told("a -5"), ["a", "-5"])
        self.assertEqual(self.told("a - 5"), ["a", "-", "5"])
        self.assertEqual(self.told("a- 5"), ["a", "-", "5"])
        self.assertEqual(self.told("a-b"), ["a", "-", "b"])
        self.assertEqual(self.told("a-5"), ["a", "-5"])
        self.assertEqual(self.told("a--5"), ["a", "-", "-5"])
        self.assertEqual(self.told("-5a_B-7"), ["-5a_B", "-7"])

    def test_longest_pieces(self):
        self.assertEqual(self.told("a<=b==c=d<e"), ["a", "<=", "b", "==", "c", "=", "d", "<", "e"])
        self.assertEqual(self.told("===<<=<==="), ["==", "=", "<", "<=", "<=", "=="])
        self.assertEqual(self.told("ab_1Z(){},:|+-*$"), ["ab_1Z"] + list("(){},:|+-*$"))
        self.assertEqual(self.told("iffy if"), ["iffy", "if"])

    def test_places(self):
        self.assertEqual(words_of(" a\n\n  bc -1\n"), [("a", 1, 2), ("bc", 3, 3), ("-1", 3, 6)])
        self.assertEqual(words_of(text="x<=y"), [("x", 1, 1), ("<=", 1, 2), ("y", 1, 4)])

    def test_without_words(self):
        for text in ("", " ", "\n", " \n \n"):
            self.assertEqual(words_of(text), [])

    def test_what_is_no_text(self):
        for thing in ["%", "a%b", "\t", "\r\n", "\u00e9", "a\x7f", "\x00"] + odd_values():
            if isinstance(thing, str) and all(" " <= c <= "~" and c != "%" for c in thing):
                continue
            with self.assertRaises(BadText) as caught:
                words_of(thing)
            told = caught.exception
            self.assertEqual((told.line, told.column, told.wanted), (None, None, None))


if __name__ == "__main__":
    unittest.main()
