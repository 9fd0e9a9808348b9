"""keptcoin/journal/notation.py (12.1 to 12.3)."""

import itertools
import random
import unittest

from keptcoin.errors import BadNotation
from keptcoin.journal.notation import read, write
from tests.helpers import Checks

ALLOWED = "".join([chr(code) for code in range(32, 127) if chr(code) != "%"])


def bad_place(text):
    """Where a text stops being the beginning of a notation, or None if it is a notation. Character by character."""
    deep, mode, digits, left = 0, "value", "", 0
    for at, char in enumerate(text):
        if mode == "string":
            if char not in ALLOWED:
                return at
            left -= 1
            mode = "string" if left else "behind"
            continue
        if mode in ("value", "first"):
            if char == "(" and deep < 12:
                deep, mode = deep + 1, "first"
            elif char == ")" and mode == "first":
                deep, mode = deep - 1, "behind"
            elif char in "TF":
                mode = "behind"
            elif char in "-0123456789":
                mode, digits = "number", char
            else:
                return at
            continue
        if mode == "number":
            if char in "0123456789" and digits != "0" and not (digits == "-" and char == "0") and len(digits.strip("-")) < 60:
                digits += char
                continue
            if digits == "-":
                return at
            if char == ":" and 0 <= int(digits) <= 1000:
                left = int(digits)
                mode = "string" if left else "behind"
                continue
            mode = "behind"
        if char == ")" and deep:
            deep -= 1
        elif char == " " and deep:
            mode = "value"
        else:
            return at
    whole = deep == 0 and (mode == "behind" or mode == "number" and digits != "-")
    return None if whole else len(text)


def nested(times, inner):
    for _ in range(times):
        inner = (inner,)
    return inner


def any_value(source, deep):
    """A plain value of at most this depth."""
    form = source.choice(["integer", "truth", "string", "tuple", "tuple"])
    if form == "tuple" and deep:
        return tuple([any_value(source, deep - 1) for _ in range(source.choice([0, 1, 2, 3]))])
    if form == "truth":
        return source.random() < 0.5
    if form == "string":
        return "".join([source.choice(ALLOWED) for _ in range(source.choice([0, 1, 2, 9, 10, 11, 30]))])
    return source.choice([0, 1, -1, 9, 10, -10, 1000, source.randint(-10 ** 60 + 1, 10 ** 60 - 1)])


class NotationTest(Checks, unittest.TestCase):
    def same(self, value, text):
        self.assertEqual(write(value), text)
        found = read(text)
        self.assertEqual(found, value)
        self.assertEqual(repr(found), repr(value))
        self.assertIsNone(bad_place(text))

    def bad(self, text, place):
        self.assertEqual(bad_place(text), place, text)
        self.fails(BadNotation, place, read, text)

    def agrees(self, text):
        """Reading a text does what the second statement says."""
        place = bad_place(text)
        if place is None:
            self.assertEqual(write(read(text)), text)
        else:
            self.fails(BadNotation, place, read, text)

    def test_integers(self):
        for number in (0, 1, 9, 10, 1000, 1001, 10 ** 59, 10 ** 60 - 1, -1, -10, -10 ** 59, 1 - 10 ** 60):
            self.same(number, str(number))
        for text, place in [("00", 1), ("01", 1), ("012", 1), ("-0", 1), ("-01", 1), ("-", 1), ("--1", 1), ("-T", 1), ("+1", 0),
                            ("1-", 1), ("1.0", 1), ("1" * 61, 60), ("-" + "1" * 61, 61), ("9" * 62, 60), ("1 ", 1), (" 1", 0),
                            ("1)", 1), ("1a", 1), ("- 1", 1), ("1_0", 1)]:
            self.bad(text, place)

    def test_truths(self):
        self.same(True, "T")
        self.same(False, "F")
        self.assertIs(read("T"), True)
        self.assertIs(read("F"), False)
        self.assertIs(read("(F)")[0], False)
        self.assertEqual(read("(1 0)")[0].__class__, int)
        for text, place in [("T ", 1), ("TT", 1), ("TF", 1), ("t", 0), ("True", 1), ("F:", 1), ("T1", 1)]:
            self.bad(text, place)

    def test_strings(self):
        for text in ("", "a", " ", "a b", "(", "()", "3:abc", "T", "12", "~!\"'\\:", ALLOWED, "x" * 999, "x" * 1000):
            self.same(text, f"{len(text)}:{text}")
        for text, place in [("4:abc", 5), ("3:abcd", 5), ("1001:", 4), ("1001:" + "x" * 1001, 4), ("9999:x", 4), ("-1:x", 2),
                            ("01:x", 1), ("0:x", 2), ("1:", 2), ("1", None), ("1000:" + "x" * 999, 1004), (":x", 0),
                            ("1 :x", 1), ("1000:" + "x" * 1001, 1005), ("3:a\nb", 3), ("3:ab\n", 4), ("2:" + chr(37) + "b", 2),
                            ("2:a" + chr(127), 3), ("2:a" + chr(228), 3), ("1" * 60 + ":", 60), ("1" * 61 + ":", 60),
                            ("-0:", 1), ("10000:", 5)]:
            if place is not None:
                self.bad(text, place)

    def test_tuples(self):
        for value, text in [((), "()"), ((1,), "(1)"), ((1, 2), "(1 2)"), (((), ()), "(() ())"), ((("a",), True), "((1:a) T)"),
                            ((7, -12, "a b", (), (True, "")), "(7 -12 3:a b () (T 0:))"),
                            ((1, (2, "(4)"), False), "(1 (2 3:(4)) F)"), (("", ""), "(0: 0:)"), ((0, 0), "(0 0)")]:
            self.same(value, text)
        for text, place in [("(1  2)", 3), ("( 1)", 1), ("(1 )", 3), ("(1 2", 4), ("(", 1), ("(1", 2), ("(1 ", 3), (")", 0),
                            ("())", 2), ("() ", 2), ("()()", 2), ("(1,2)", 2), ("(1 2))", 5), ("(1(2))", 2), ("(T)F", 3),
                            ("((1)2)", 4), ("(1 2", 4), ("(()", 3), ("(4:abc)", 7), ("(5:abc)", 7), ("(012)", 2),
                            ("(-0)", 2), ("(1:a1:b)", 4), ("[1]", 0), ("(1 2]", 4), ("(T1)", 2)]:
            self.bad(text, place)

    def test_of_the_document(self):
        for text, place in [("", 0), ("(1  2)", 3), ("012", 1), ("-0", 1), ("4:abc", 5), ("1001:", 4), ("T ", 1), ("(1 2", 4)]:
            self.bad(text, place)

    def test_depth(self):
        for times in range(1, 13):
            self.same(nested(times - 1, ()), "(" * times + ")" * times)
            self.same(nested(times, 7), "(" * times + "7" + ")" * times)
        self.bad("(" * 13, 12)
        self.bad("(" * 13 + ")" * 13, 12)
        self.bad("(" * 12 + "1 (" + ")" * 13, 14)
        self.bad("(" * 12, 12)
        self.bad("(" * 12 + "1 2" + ")" * 13, 27)
        # What is closed no longer counts.
        self.same((nested(11, 7), nested(11, "x"), ()), "(" + "(" * 11 + "7" + ")" * 11 + " " + "(" * 11 + "1:x" + ")" * 11 + " ())")

    def test_wide_and_long(self):
        value = tuple([("x" * 1000, at) for at in range(300)])
        self.same(value, "(" + " ".join([f"(1000:{'x' * 1000} {at})" for at in range(300)]) + ")")
        value = tuple(range(10000))
        self.assertEqual(read(write(value)), value)

    def test_all_short_texts(self):
        for length in range(6):
            for chars in itertools.product("( )01-:T", repeat=length):
                self.agrees("".join(chars))

    def test_places_can_be_completed(self):
        """A beginning up to the place that is told has a completion, and no longer beginning has."""
        endings = [*[filler + ")" * many for filler in ("", "1", "a", "aa", "aaa") for many in range(5)]]

        def can_be_completed(text):
            for ending in endings:
                try:
                    read(text + ending)
                except BadNotation:
                    continue
                return True
            return False

        for chars in itertools.product("( )02-:F", repeat=4):
            text = "".join(chars)
            try:
                read(text)
            except BadNotation as e:
                for length in range(5):
                    if length <= e.what:
                        if "2:" not in text and "22" not in text and "20" not in text:
                            self.assertTrue(can_be_completed(text[:length]), text[:length])
                    else:
                        self.assertFalse(can_be_completed(text[:length]), text[:length])

    def test_made_up_values(self):
        source = random.Random(12)
        for _ in range(1500):
            value = any_value(source, 12)
            self.same(value, write(value))

    def test_damaged_texts(self):
        source = random.Random(7)
        texts = [write(any_value(source, 4)) for _ in range(60)]
        for text in [*[text for text in texts if len(text) < 200], "(7 -12 3:a b () (T 0:))", "((1:a 10:aaaaaaaaaa) -100 F)"]:
            for at in range(len(text) + 1):
                self.agrees(text[:at])
                self.agrees(text[at:])
                self.agrees(text[:at] + text[at + 1:])
                self.agrees(text[:at] + text[at:at + 1] + text[at:])
                self.agrees(text[:at] + text[at:at + 2][::-1] + text[at + 2:])
                for char in "( )01-:T\n" + chr(37):
                    self.agrees(text[:at] + char + text[at:])
                    self.agrees(text[:at] + char + text[at + 1:])


if __name__ == "__main__":
    unittest.main()
