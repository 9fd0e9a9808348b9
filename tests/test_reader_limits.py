"""The limits of keptcoin/scripts/reader.py, and the order of its errors (2.6 to 2.8)."""

import unittest

from keptcoin.errors import BadSyntax, BadToken, BadUse, DeepTerm, OverLimit
from keptcoin.scripts.reader import read_script
from keptcoin.scripts.tokens import tokens
from tests.helpers import Checks, binary, call, fact, listed, nested, number, variable

ONE = number(1)

# For each construct: what stands before the place of the inner one, and what stands behind it.
CONSTRUCTS = {
    "let, first part": ("let x = ", " in 1"),
    "let, second part": ("let x = 1 in ", ""),
    "if, first part": ("if ", " then 1 else 1"),
    "if, second part": ("if 1 then ", " else 1"),
    "if, third part": ("if 1 then 1 else ", ""),
    "fold, first part": ("fold x s in ", " from 1 do 1"),
    "fold, second part": ("fold x s in 1 from ", " do 1"),
    "fold, third part": ("fold x s in 1 from 1 do ", ""),
    "note, first part": ("note ", " then 1"),
    "note, second part": ("note 1 then ", ""),
    "bracket": ("(", ")"),
    "pair, first part": ("(", ", 1)"),
    "pair, second part": ("(1, ", ")"),
    "list": ("[", "]"),
    "list, last item": ("[1, 1, ", "]"),
    "call of a function": ("count(", ")"),
    "call, last argument": ("item(1, ", ")"),
}
UNARY = {"minus": ("-", ""), "not": ("not ", "")}


class OpenConstructsTest(Checks, unittest.TestCase):
    def reads(self, text):
        """Reading finds no fault of grammar."""
        try:
            read_script(text)
        except (BadUse, DeepTerm):
            pass

    def over(self, place, text):
        self.fails(OverLimit, place, read_script, text)

    def bad(self, place, text):
        self.fails(BadSyntax, place, read_script, text)

    def place_of_opening(self, before):
        """The place in the text before the inner one at which the construct is opened."""
        return before.index("(") if before.startswith(("count", "item")) else 0

    def test_sixteen_and_seventeen_of_each_kind(self):
        for before, behind in [*CONSTRUCTS.values(), *UNARY.values()]:
            self.reads(before * 16 + "1" + behind * 16)
            self.over(16 * len(before) + self.place_of_opening(before), before * 17 + "1" + behind * 17)

    def test_each_kind_within_fifteen_and_sixteen_brackets(self):
        for before, behind in [*CONSTRUCTS.values(), *UNARY.values()]:
            self.reads("(" * 15 + before + "1" + behind + ")" * 15)
            self.over(16 + self.place_of_opening(before), "(" * 16 + before + "1" + behind + ")" * 16)

    def test_what_is_closed_does_not_count(self):
        for before, behind in CONSTRUCTS.values():
            piece = "(" * 15 + before + "1" + behind + ")" * 15
            self.reads(piece + " + " + piece)
            self.reads("def f() = " + piece + "; " + piece)
        self.reads("(" * 15 + "-1 - (1) + not 1 * [1]" + ")" * 15)
        self.reads("(" * 15 + "-1, -1" + ")" * 15)
        self.reads("(" * 15 + "if 1 then 1 else 1" + ")" * 15 + " + (1)")
        self.reads("(" * 14 + "[(1), (1), let x = 1 in 1, (1)]" + ")" * 14)

    def test_what_is_closed_counts_no_longer(self):
        for before, behind in [*CONSTRUCTS.values(), *UNARY.values()]:
            closed = "((" + before + "1" + behind + "), "
            self.reads(closed + "(" * 15 + "1" + ")" * 16)
            self.over(len(closed) + 15, closed + "(" * 16 + "1" + ")" * 17)

    def test_minus_ends_with_its_operand(self):
        self.reads("-" * 16 + "1 + -1")
        self.reads("-" * 16 + "1 * " + "-" * 16 + "1")
        self.reads("-" * 15 + "(1) * -(1)")
        self.over(16, "-" * 16 + "(1)")

    def test_low_terms_end_with_their_last_part(self):
        self.over(13 * 16, "let x = 1 in " * 16 + "-1")
        self.over(13 * 16 + 4, "let x = 1 in " * 16 + "1 + -1")
        self.reads("[" + "let x = 1 in " * 15 + "1, -1]")
        self.over(1 + 13 * 15 + 4, "[" + "let x = 1 in " * 15 + "1 + -1, 1]")
        self.reads("let x = " * 15 + "-1" + " in -1" * 15)

    def test_binary_operators_open_nothing(self):
        self.reads("(" * 16 + "1 - 1" + ")" * 16)
        self.reads("1" + " - 1" * 99)

    def test_brackets_of_parameters_do_not_count(self):
        self.reads("def f(x, y) = " + "(" * 16 + "1" + ")" * 16 + "; 1")
        self.reads("def f(x, y) = 1; " + "(" * 16 + "1" + ")" * 16)
        self.over(14 + 16, "def f(x, y) = " + "(" * 17 + "1" + ")" * 17 + "; 1")

    def test_a_token_that_cannot_stand_is_bad_also_at_the_limit(self):
        self.bad(17, "(" * 16 + "1(")
        self.bad(17, "(" * 16 + "1[")
        self.bad(18, "(" * 16 + "1 let")
        self.bad(18, "(" * 16 + "1 not")
        self.bad(21, "(" * 16 + "count[")
        self.bad(22, "(" * 16 + "begins(")
        self.bad(16, "(" * 16)
        self.over(16, "(" * 16 + "(")
        self.over(16, "(" * 17 + ") * * 1 2 3")
        self.over(16, "(" * 16 + "let in")
        self.over(17, "(" * 16 + "f(1")
        self.over(21, "(" * 16 + "count(")

    def test_a_good_token_at_the_limit(self):
        for term in ("1", "true", "fail", "begins", "x", "1 + 1"):
            self.reads("(" * 16 + term + ")" * 16)


class CountsTest(Checks, unittest.TestCase):
    def definitions(self, many):
        return "".join([f"def {name}() = 1; " for name in "abcdefgh"[:many]])

    def test_six_and_seven_definitions(self):
        script = read_script(self.definitions(6) + "1")
        self.assertEqual(len(script[0]), 6)
        place = len(self.definitions(6))
        self.fails(OverLimit, place, read_script, self.definitions(7) + "1")
        self.fails(OverLimit, place, read_script, self.definitions(6) + "def def def")
        self.fails(BadSyntax, place + 1, read_script, self.definitions(6) + "(def x() = 1; 1)")
        self.fails(BadSyntax, place, read_script, self.definitions(6) + "; def")

    def test_four_and_five_parameters(self):
        self.assertEqual(read_script("def f(a, b, c, d) = 1; 1")[0], (("f", ("a", "b", "c", "d"), ONE),))
        self.fails(OverLimit, 16, read_script, "def f(a, b, c, d, e) = 1; 1")
        self.fails(OverLimit, 16, read_script, "def f(a, b, c, d,,")
        self.fails(OverLimit, 16, read_script, "def f(a, b, c, d,")
        self.fails(BadSyntax, 17, read_script, "def f(a, b, c, d e) = 1; 1")

    def test_four_and_five_arguments(self):
        definition = "def f(a, b, c, d) = 1; "
        self.assertEqual(read_script(definition + "f(1, 1, 1, 1)")[1], call("f", ONE, ONE, ONE, ONE))
        for name in ("f", "count", "x"):
            place = len(definition + name + "(1, 1, 1, 1")
            self.fails(OverLimit, place, read_script, definition + name + "(1, 1, 1, 1, 1)")
            self.fails(OverLimit, place, read_script, definition + name + "(1, 1, 1, 1,,")
            self.fails(BadSyntax, place + 1, read_script, definition + name + "(1, 1, 1, 1 1")
        self.fails(OverLimit, len("count((1, 1), [1, 1, 1, 1, 1], 1, 1"), read_script,
                   "count((1, 1), [1, 1, 1, 1, 1], 1, 1, 1)")

    def test_eight_and_nine_items(self):
        self.assertEqual(read_script("[1, 1, 1, 1, 1, 1, 1, 1]")[1], listed(*[ONE] * 8))
        self.fails(OverLimit, 23, read_script, "[1, 1, 1, 1, 1, 1, 1, 1, 1]")
        self.fails(OverLimit, 23, read_script, "[1, 1, 1, 1, 1, 1, 1, 1, ) ) )")
        self.fails(BadSyntax, 24, read_script, "[1, 1, 1, 1, 1, 1, 1, 1 1]")
        self.fails(OverLimit, 24, read_script, "[[1, 1, 1, 1, 1, 1, 1, 1, 1], 1]")

    def test_a_pair_has_two_parts(self):
        self.fails(BadSyntax, 5, read_script, "(1, 1, 1)")

    def test_first_fault_from_the_left(self):
        self.fails(BadSyntax, 2, read_script, "1 1 " + "(" * 17)
        self.fails(OverLimit, 16, read_script, "(" * 17 + " 1 1")
        self.fails(OverLimit, 23, read_script, "[1, 1, 1, 1, 1, 1, 1, 1, 1, " + "(" * 17)


class OrderOfErrorsTest(Checks, unittest.TestCase):
    DEEP = "-" * 16 + "1"

    def test_tokens_before_grammar(self):
        self.fails(BadToken, 6, read_script, "1 1 1 A")
        self.fails(BadToken, 18, read_script, "(" * 17 + " A")
        self.fails(OverLimit, 202, read_script, ") " + "-" * 199 + " A")
        self.fails(OverLimit, 200, read_script, "-" * 201)

    def test_grammar_before_uses(self):
        self.fails(BadSyntax, 4, read_script, "x + ")
        self.fails(BadSyntax, 2, read_script, "x 1")
        self.fails(OverLimit, 4 + 16, read_script, "x + " + "(" * 20)
        self.fails(BadUse, "x", read_script, "x + (1)")

    def test_uses_before_depth(self):
        self.fails(BadUse, "x", read_script, self.DEEP + " + x")
        self.fails(BadUse, "x", read_script, "def f() = " + self.DEEP + "; x")
        self.fails(BadUse, "f", read_script, "def f() = " + self.DEEP + "; def f() = 1; 1")
        self.fails(DeepTerm, 17, read_script, self.DEEP)

    def test_first_wrong_use(self):
        self.fails(BadUse, "f", read_script, "def f() = 1; def f(x, x) = y; z")
        self.fails(BadUse, "x", read_script, "def f() = 1; def g(x, x) = y; z")
        self.fails(BadUse, "y", read_script, "def f() = 1; def g(x) = y; z")
        self.fails(BadUse, "z", read_script, "def f() = 1; def g(x) = x; z")
        self.fails(BadUse, "g", read_script, "def f() = g(); def g() = 1; 1")
        self.fails(BadUse, "count", read_script, "count()")
        self.fails(BadUse, "item", read_script, "item(x)")
        self.fails(BadUse, "a", read_script, "fold a a in x from y do z")

    def test_depth(self):
        self.assertEqual(read_script("-" * 15 + "1"), ((), nested("minus", 15, ONE)))
        self.fails(DeepTerm, 17, read_script, "-" * 16 + "1")
        self.assertEqual(read_script("1" + " + 1" * 15)[1][0], "binary")
        self.fails(DeepTerm, 17, read_script, "1" + " + 1" * 16)
        self.fails(DeepTerm, 100, read_script, "1" + " + 1" * 99)
        self.fails(DeepTerm, 18, read_script, "def f() = -1" + " + 1" * 16 + "; 1")
        self.fails(DeepTerm, 18, read_script, "def f() = 1" + " + 1" * 16 + "; def g() = 1; 1" + " + 1" * 17)
        self.fails(DeepTerm, 19, read_script, "def f() = 1" + " + 1" * 18 + "; def g() = 1; 1" + " + 1" * 17)
        self.assertEqual(read_script("(" * 16 + "1" + ")" * 16), ((), ONE))

    def test_as_many_tokens_as_are_allowed(self):
        item = "(1 + 1 + 1 + 1 + 1 + 1 + 1 + 1 + 1 + 1 + 1 + 1 + 1)"
        text = "[" + ", ".join([item] * 7) + ", -1]"
        self.assertEqual(len(tokens(text)), 200)
        self.assertEqual(len(read_script(text)[1][1]), 8)
        self.fails(OverLimit, len(text), read_script, text.replace("-1", "--1"))
        self.fails(OverLimit, len(text), read_script, text + "]")

    def test_greatest_words_and_numbers(self):
        self.assertEqual(read_script("let abcdefghijkl = 1000000000000000 in abcdefghijkl"), ((), (
            "let", "abcdefghijkl", number(10 ** 15), variable("abcdefghijkl"))))
        self.assertEqual(read_script("begins<=0"), ((), binary("<=", fact("begins"), number(0))))


if __name__ == "__main__":
    unittest.main()
