"""keptcoin/scripts/printing.py (2.9, 2.10)."""

import random
import unittest

from keptcoin.errors import BadSyntax, KeptError, OverLimit
from keptcoin.scripts.printing import print_script, print_term
from keptcoin.scripts.reader import read_script
from keptcoin.scripts.terms import FACTS, FUNCTIONS
from keptcoin.scripts.tokens import tokens
from tests.helpers import FAIL, FALSE, TRUE, Checks, binary, call, fact, listed, minus, number, variable
from tests.making import any_script

ONE, TWO, THREE = number(1), number(2), number(3)
X, S = variable("x"), variable("s")
LEVELS = {"or": 1, "and": 2, "==": 3, "<": 3, "<=": 3, "+": 4, "-": 4, "*": 5, "div": 5, "mod": 5}
LOW = [
    ("let x = 1 in 2", ("let", "x", ONE, TWO)),
    ("if 1 then 2 else 3", ("if", ONE, TWO, THREE)),
    ("fold x s in 1 from 2 do 3", ("fold", "x", "s", ONE, TWO, THREE)),
    ("note 1 then 2", ("note", ONE, TWO)),
]


class PrintingTest(Checks, unittest.TestCase):
    def prints(self, text, term):
        """The term is printed so, and the text reads back."""
        self.assertEqual(print_term(term), text)
        self.assertEqual(print_script(((), term)), text)
        script = ((("f", ("x", "s"), term),), ONE)
        self.assertEqual(read_script(print_script(script)), script, text)

    def test_of_the_interface(self):
        self.assertEqual(print_term(binary("-", number(5), binary("-", number(3), minus(number(1))))), "5 - (3 - -1)")

    def test_simple_terms(self):
        for text, term in [("0", number(0)), ("1000000000000000", number(10 ** 15)), ("true", TRUE), ("false", FALSE),
                           ("fail", FAIL), ("x", X), ("[]", listed()), ("[1]", listed(ONE)),
                           ("[1, 2, 3]", listed(ONE, TWO, THREE)), ("(1, 2)", ("pair", ONE, TWO)),
                           ("((1, 2), (2, 3))", ("pair", ("pair", ONE, TWO), ("pair", TWO, THREE))),
                           ("[1, 2, 3, 1, 2, 3, 1, 2]", listed(ONE, TWO, THREE, ONE, TWO, THREE, ONE, TWO))]:
            self.prints(text, term)
        for word in FACTS:
            self.prints(word, fact(word))

    def test_calls(self):
        for name, many in FUNCTIONS.items():
            self.prints(name + "(" + ", ".join("123"[:many]) + ")", call(name, *[ONE, TWO, THREE][:many]))
        self.assertEqual(print_term(call("f")), "f()")
        self.assertEqual(print_term(call("f", ONE, X, listed(), ("pair", ONE, TWO))), "f(1, x, [], (1, 2))")

    def test_forms(self):
        for text, term in LOW:
            self.prints(text, term)
        self.prints("-1", minus(ONE))
        self.prints("not true", ("not", TRUE))
        for sign in LEVELS:
            self.prints(f"1 {sign} 2", binary(sign, ONE, TWO))

    def test_each_pair_of_operators(self):
        for a, low in LEVELS.items():
            for b, high in LEVELS.items():
                left = binary(a, binary(b, ONE, TWO), THREE)
                right = binary(a, ONE, binary(b, TWO, THREE))
                needs_left = high < low or (low == high == 3)
                self.prints(f"(1 {b} 2) {a} 3" if needs_left else f"1 {b} 2 {a} 3", left)
                self.prints(f"1 {a} 2 {b} 3" if high > low else f"1 {a} (2 {b} 3)", right)

    def test_two_comparisons_without_brackets_are_refused(self):
        for a in ("==", "<", "<="):
            for b in ("==", "<", "<="):
                self.fails(BadSyntax, 5 + len(a), read_script, f"1 {a} 2 {b} 3")

    def test_minus_and_not_at_each_operator(self):
        for word, form in (("-", "minus"), ("not ", "not")):
            for sign in LEVELS:
                self.prints(f"{word}1 {sign} 2", binary(sign, (form, ONE), TWO))
                self.prints(f"1 {sign} {word}2", binary(sign, ONE, (form, TWO)))
                self.prints(f"{word}(1 {sign} 2)", (form, binary(sign, ONE, TWO)))
            for other, outer in (("-", "minus"), ("not ", "not")):
                self.prints(f"{other}{word}1", (outer, (form, ONE)))

    def test_minus_and_not_before_simple_terms(self):
        for word, form in (("-", "minus"), ("not ", "not")):
            for text, term in [("fail", FAIL), ("[1]", listed(ONE)), ("(1, 2)", ("pair", ONE, TWO)), ("x", X),
                               ("count(1)", call("count", ONE)), ("here", fact("here"))]:
                self.prints(word + text, (form, term))

    def test_low_terms_at_every_place(self):
        for text, term in LOW:
            for sign in LEVELS:
                self.prints(f"({text}) {sign} 1", binary(sign, term, ONE))
                self.prints(f"1 {sign} ({text})", binary(sign, ONE, term))
            self.prints(f"-({text})", minus(term))
            self.prints(f"not ({text})", ("not", term))
            self.prints(f"({text}, 1)", ("pair", term, ONE))
            self.prints(f"(1, {text})", ("pair", ONE, term))
            self.prints(f"[{text}, 1, {text}]", listed(term, ONE, term))
            self.prints(f"item({text}, {text})", call("item", term, term))
            self.prints(f"let s = {text} in {text}", ("let", "s", term, term))
            self.prints(f"if {text} then {text} else {text}", ("if", term, term, term))
            self.prints(f"fold s x in {text} from {text} do {text}", ("fold", "s", "x", term, term, term))
            self.prints(f"note {text} then {text}", ("note", term, term))

    def test_operators_stand_without_brackets_at_other_places(self):
        for sign in LEVELS:
            term, text = binary(sign, ONE, TWO), f"1 {sign} 2"
            self.prints(f"({text}, {text})", ("pair", term, term))
            self.prints(f"[{text}]", listed(term))
            self.prints(f"count({text})", call("count", term))
            self.prints(f"let s = {text} in {text}", ("let", "s", term, term))
            self.prints(f"if {text} then {text} else {text}", ("if", term, term, term))
            self.prints(f"fold s x in {text} from {text} do {text}", ("fold", "s", "x", term, term, term))
            self.prints(f"note {text} then {text}", ("note", term, term))

    def test_definitions(self):
        script = ((("f", (), ONE), ("g", ("x", "y"), binary("+", X, call("f")))), call("g", TWO, ("pair", ONE, TWO)))
        self.assertEqual(print_script(script), "def f() = 1; def g(x, y) = x + f(); g(2, (1, 2))")
        self.assertEqual(read_script(print_script(script)), script)
        low = ((("f", ("x",), ("let", "x", ONE, X)),), ("note", ONE, TWO))
        self.assertEqual(print_script(low), "def f(x) = let x = 1 in x; note 1 then 2")
        self.assertEqual(read_script(print_script(low)), low)

    def test_wrong_uses_are_printed(self):
        self.assertEqual(print_script(((("f", ("x", "x"), S),), call("g", ONE))), "def f(x, x) = s; g(1)")

    def test_needless_brackets_and_spaces(self):
        for text, printed in [
            (" ( ( 1 ) ) ", "1"), ("((1)+(2))*(3)", "(1 + 2) * 3"), ("(1*2)+3", "1 * 2 + 3"), ("-(-(1))", "--1"),
            ("not(true)", "not true"), ("let x=(1)in(x)", "let x = 1 in x"), ("(1 < 2)or(3 < 1)", "1 < 2 or 3 < 1"),
            ("def f ( a,b )=(a);f( (1),(2))", "def f(a, b) = a; f(1, 2)"), ("[ ( 1 ),(2) ]", "[1, 2]"),
            ("((1),((2),(3)))", "(1, (2, 3))"), ("1-(2)-(3-1)", "1 - 2 - (3 - 1)"),
            ("if(true)then(1)else(2)", "if true then 1 else 2"),
            ("(fold x s in([1])from(0)do(x))", "fold x s in [1] from 0 do x"),
        ]:
            self.assertEqual(print_script(read_script(text)), printed)
            self.assertEqual(print_script(read_script(printed)), printed)

    def test_made_up_scripts(self):
        source = random.Random(3)
        many = 0
        for _ in range(600):
            script = any_script(source, source.randint(1, 6))
            text = print_script(script)
            try:
                self.assertEqual(read_script(text), script, text)
                many += 1
            except OverLimit:
                continue
            self.check_brackets(script, text)
        self.assertGreater(many, 400)

    def check_brackets(self, script, text):
        """No pair of round brackets can be left out."""
        pieces = tokens(text)
        opened = []
        for index, (word, place) in enumerate(pieces):
            if word == "(":
                opened.append(place)
            if word == ")":
                left = opened.pop()
                shorter = text[:left] + " " + text[left + 1:place] + " " + text[place + 1:]
                self.assertNotEqual(self.read_or_none(shorter), script, shorter)

    def read_or_none(self, text):
        try:
            return read_script(text)
        except KeptError:
            return None

    def test_arguments_stay(self):
        term = binary("*", binary("+", ONE, TWO), THREE)
        print_term(term)
        self.assertEqual(term, ("binary", "*", ("binary", "+", ("number", 1), ("number", 2)), ("number", 3)))


if __name__ == "__main__":
    unittest.main()
