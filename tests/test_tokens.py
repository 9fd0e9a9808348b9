"""keptcoin/scripts/tokens.py (2.4)."""

import unittest

from keptcoin.errors import BadToken, OverLimit
from keptcoin.scripts.tokens import tokens
from tests.helpers import Checks

SIGNS = "== <= < = + - * ( ) [ ] , ;".split()
NO_TOKEN = "!\"#$&'./:>?@ABCXYZ\\^_`{|}~"


class TokensTest(Checks, unittest.TestCase):
    def test_of_the_interface(self):
        self.assertEqual(tokens(" 12ab<=x"), [("12", 1), ("ab", 3), ("<=", 5), ("x", 7)])
        self.assertIsInstance(tokens("1"), list)
        self.assertIsInstance(tokens("1")[0], tuple)

    def test_nothing(self):
        self.assertEqual(tokens(""), [])
        self.assertEqual(tokens("    "), [])

    def test_spaces(self):
        self.assertEqual(tokens("  a   1 "), [("a", 2), ("1", 6)])
        self.assertEqual(tokens("a1b2"), [("a", 0), ("1", 1), ("b", 2), ("2", 3)])
        self.assertEqual(tokens("a b"), [("a", 0), ("b", 2)])

    def test_signs(self):
        for sign in SIGNS:
            self.assertEqual(tokens(sign), [(sign, 0)])
            self.assertEqual(tokens("x" + sign + "1"), [("x", 0), (sign, 1), ("1", 1 + len(sign))])

    def test_as_long_as_possible(self):
        for text, words in [("===", ["==", "="]), ("====", ["==", "=="]), ("<==", ["<=", "="]), ("=<=", ["=", "<="]),
                            ("<<=", ["<", "<="]), ("= =", ["=", "="]), ("< =", ["<", "="]), ("--", ["-", "-"]),
                            ("=<", ["=", "<"]), ("([", ["(", "["]), ("notx", ["notx"]), ("defdef", ["defdef"])]:
            self.assertEqual([word for word, _ in tokens(text)], words)

    def test_numbers(self):
        for text in ("0", "1", "9", "10", "999999999999999", "1000000000000000"):
            self.assertEqual(tokens(text), [(text, 0)])
        for text in ("1000000000000001", "2000000000000000", "9999999999999999", "10000000000000000", "9" * 4000):
            self.fails(BadToken, 0, tokens, text)
            self.fails(BadToken, 2, tokens, ("x " + text)[:4000])

    def test_leading_zeros(self):
        for text in ("00", "01", "007", "0000000000000000000001", "0" * 4000):
            self.fails(BadToken, 0, tokens, text)
        self.fails(BadToken, 2, tokens, "1 01")
        self.assertEqual(tokens("0 0a0"), [("0", 0), ("0", 2), ("a", 3), ("0", 4)])
        self.assertEqual(tokens("10 100"), [("10", 0), ("100", 3)])

    def test_each_letter_and_digit(self):
        for letter in "abcdefghijklmnopqrstuvwxyz":
            self.assertEqual(tokens(letter), [(letter, 0)])
            self.assertEqual(tokens("1" + letter + "1"), [("1", 0), (letter, 1), ("1", 2)])
        for digit in "0123456789":
            self.assertEqual(tokens(digit), [(digit, 0)])
            self.assertEqual(tokens("a" + digit + "a"), [("a", 0), (digit, 1), ("a", 2)])

    def test_words(self):
        self.assertEqual(tokens("abcdefghijkl"), [("abcdefghijkl", 0)])
        self.assertEqual(tokens("opqrstuvwxyz"), [("opqrstuvwxyz", 0)])
        self.fails(BadToken, 0, tokens, "abcdefghijklm")
        self.fails(BadToken, 3, tokens, "a, " + "z" * 3997)
        self.fails(BadToken, 3, tokens, "a, abcdefghijklm !")

    def test_no_token_begins(self):
        for character in NO_TOKEN:
            self.fails(BadToken, 0, tokens, character)
            self.fails(BadToken, 4, tokens, "ab1 " + character + "x")
            self.fails(BadToken, 2, tokens, "ab" + character)

    def test_capital_letters(self):
        self.fails(BadToken, 1, tokens, "aB")
        self.fails(BadToken, 0, tokens, "Ab")
        self.fails(BadToken, 4, tokens, "let X = 1 in X")

    def test_first_fault_counts(self):
        self.fails(BadToken, 0, tokens, "01 A")
        self.fails(BadToken, 0, tokens, "A 01")
        self.fails(BadToken, 2, tokens, "x abcdefghijklm 01")

    def test_two_hundred(self):
        self.assertEqual(len(tokens("x " * 200)), 200)
        self.assertEqual(len(tokens("x1" * 100 + " " * 50)), 200)
        self.assertEqual(len(tokens("-" * 200)), 200)

    def test_two_hundred_and_one(self):
        self.fails(OverLimit, 400, tokens, "x " * 201)
        self.fails(OverLimit, 200, tokens, "-" * 201)
        self.fails(OverLimit, 203, tokens, "-" * 200 + "   1   ")
        for bad in ("A", "01", "9" * 20, "z" * 13, "!", "1", "x"):
            self.fails(OverLimit, 201, tokens, "-" * 200 + " " + bad)

    def test_fault_before_the_limit(self):
        self.fails(BadToken, 199, tokens, "-" * 199 + "! 1")
        self.fails(BadToken, 199, tokens, "-" * 199 + "01 1")


if __name__ == "__main__":
    unittest.main()
