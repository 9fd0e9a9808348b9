"""The grammar of keptcoin/scripts/reader.py (2.5, 2.7)."""

import random
import unittest

from keptcoin.errors import BadSyntax, BadUse, DeepTerm, OverLimit
from keptcoin.scripts.printing import print_script
from keptcoin.scripts.reader import read_script
from keptcoin.scripts.terms import FACTS, FUNCTIONS, RESERVED
from keptcoin.scripts.tokens import tokens
from tests.grammar import first_fault
from tests.helpers import FAIL, FALSE, TRUE, Checks, binary, call, fact, listed, minus, number, variable
from tests.making import any_script

ONE, TWO, THREE = number(1), number(2), number(3)
X, Y = variable("x"), variable("y")


class GrammarTest(Checks, unittest.TestCase):
    def reads(self, text, term):
        self.assertEqual(read_script(text), ((), term), text)

    def bound(self, text, term):
        """Reads a text in which x and y are bound."""
        script = read_script("def f(x, y) = " + text + "; 1")
        self.assertEqual(script, ((("f", ("x", "y"), term),), ONE), text)

    def bad(self, place, text):
        self.fails(BadSyntax, place, read_script, text)

    def test_of_the_interface(self):
        self.assertEqual(read_script("def up(x) = x + 1; up(2)"), (
            (("up", ("x",), binary("+", X, ONE)),), call("up", TWO)))

    def test_simple_terms(self):
        for text, term in [("0", number(0)), ("1000000000000000", number(10 ** 15)), ("true", TRUE), ("false", FALSE),
                           ("fail", FAIL), ("(1)", ONE), ("((1))", ONE), ("(1, 2)", ("pair", ONE, TWO)),
                           ("((1), (2))", ("pair", ONE, TWO)), ("((1, 2))", ("pair", ONE, TWO)),
                           ("((1, 2), 3)", ("pair", ("pair", ONE, TWO), THREE)),
                           ("(1, (2, 3))", ("pair", ONE, ("pair", TWO, THREE))), ("[]", listed()),
                           ("[1]", listed(ONE)), ("[1, 2, 3]", listed(ONE, TWO, THREE)), ("[[], [1]]",
                           listed(listed(), listed(ONE))), ("[(1, 2)]", listed(("pair", ONE, TWO)))]:
            self.reads(text, term)
        for word in FACTS:
            self.reads(word, fact(word))
        self.bound("x", X)

    def test_truths_are_truths(self):
        self.assertIs(read_script("true")[1][1], True)
        self.assertIs(read_script("false")[1][1], False)

    def test_calls(self):
        for name, many in FUNCTIONS.items():
            self.reads(name + "(" + ", ".join(["1"] * many) + ")", call(name, *[ONE] * many))
        self.assertEqual(read_script("def f() = 1; f()")[1], call("f"))
        self.assertEqual(read_script("def f(x) = 1; f ( 2 )")[1], call("f", TWO))
        self.assertEqual(read_script("def f(a, b, c, d) = 1; f(1, [], (2), (1, 2))")[1],
                         call("f", ONE, listed(), TWO, ("pair", ONE, TWO)))
        self.reads("count(tail([1, 2]))", call("count", call("tail", listed(ONE, TWO))))

    def test_unary(self):
        self.reads("-1", minus(ONE))
        self.reads("- 1", minus(ONE))
        self.reads("--1", minus(minus(ONE)))
        self.reads("not true", ("not", TRUE))
        self.reads("not not true", ("not", ("not", TRUE)))
        self.reads("-not 1", minus(("not", ONE)))
        self.reads("not -1", ("not", minus(ONE)))
        self.reads("-(1 + 2)", minus(binary("+", ONE, TWO)))
        self.reads("-[]", minus(listed()))
        self.reads("-count(1)", minus(call("count", ONE)))

    def test_unary_before_and_behind_operators(self):
        for sign in "+ - * div mod == < <=".split():
            self.reads(f"-1 {sign} 2", binary(sign, minus(ONE), TWO))
            self.reads(f"1 {sign} -2", binary(sign, ONE, minus(TWO)))
            self.reads(f"not 1 {sign} not 2", binary(sign, ("not", ONE), ("not", TWO)))
        self.reads("not 1 and 2", binary("and", ("not", ONE), TWO))
        self.reads("1 or not 2", binary("or", ONE, ("not", TWO)))

    def test_levels(self):
        levels = [["or"], ["and"], ["==", "<", "<="], ["+", "-"], ["*", "div", "mod"]]
        for low, signs in enumerate(levels):
            for high, others in enumerate(levels):
                for a in signs:
                    for b in others:
                        text = f"1 {a} 2 {b} 3"
                        if low == high == 2:
                            self.bad(5 + len(a), text)
                        elif high > low:
                            self.reads(text, binary(a, ONE, binary(b, TWO, THREE)))
                        else:
                            self.reads(text, binary(b, binary(a, ONE, TWO), THREE))
                        self.reads(f"(1 {a} 2) {b} 3", binary(b, binary(a, ONE, TWO), THREE))
                        self.reads(f"1 {a} (2 {b} 3)", binary(a, ONE, binary(b, TWO, THREE)))

    def test_long_chains_associate_to_the_left(self):
        for sign in "+ - * div mod and or".split():
            term = ONE
            for _ in range(15):
                term = binary(sign, term, TWO)
            self.reads("1" + f" {sign} 2" * 15, term)

    def test_comparisons_do_not_associate(self):
        self.bad(7, "1 == 2 == 3")
        self.bad(6, "1 < 2 <= 3")
        self.bad(16, "1 < 2 and 3 < 4 < 5")
        self.reads("(1 < 2) < 3", binary("<", binary("<", ONE, TWO), THREE))
        self.reads("1 < 2 and 1 == 2", binary("and", binary("<", ONE, TWO), binary("==", ONE, TWO)))
        self.reads("1 + 2 < 3 * 1", binary("<", binary("+", ONE, TWO), binary("*", THREE, ONE)))

    def test_let_if_fold_note(self):
        self.reads("let x = 1 in x", ("let", "x", ONE, X))
        self.reads("let x = 1 in x + 2", ("let", "x", ONE, binary("+", X, TWO)))
        self.reads("let x = let y = 1 in y in x", ("let", "x", ("let", "y", ONE, Y), X))
        self.reads("let x = 1 in let y = x in y", ("let", "x", ONE, ("let", "y", X, Y)))
        self.reads("if 1 then 2 else 3 or 1", ("if", ONE, TWO, binary("or", THREE, ONE)))
        self.reads("(if 1 then 2 else 3) or 1", binary("or", ("if", ONE, TWO, THREE), ONE))
        self.reads("if if 1 then 2 else 3 then if 1 then 1 else 1 else if 2 then 2 else 2",
                   ("if", ("if", ONE, TWO, THREE), ("if", ONE, ONE, ONE), ("if", TWO, TWO, TWO)))
        self.reads("fold x y in [] from 1 do x + y", ("fold", "x", "y", listed(), ONE, binary("+", X, Y)))
        self.reads("fold x y in fold x y in 1 from 2 do 3 from fold x y in 1 from 2 do 3 do fold x y in 1 from 2 do 3",
                   ("fold", "x", "y", *[("fold", "x", "y", ONE, TWO, THREE)] * 3))
        self.reads("note 1 then 2", ("note", ONE, TWO))
        self.reads("note note 1 then 2 then note 3 then 1", ("note", ("note", ONE, TWO), ("note", THREE, ONE)))
        self.reads("[let x = 1 in x, note 1 then 2]", listed(("let", "x", ONE, X), ("note", ONE, TWO)))
        self.reads("(if 1 then 2 else 3, 1)", ("pair", ("if", ONE, TWO, THREE), ONE))

    def test_low_terms_are_no_operands(self):
        for low in ("let x = 1 in x", "if 1 then 2 else 3", "fold x y in [] from 1 do 2", "note 1 then 2"):
            for before in ("1 + ", "1 or ", "1 == ", "-", "not ", "1 mod "):
                self.bad(len(before), before + low)
            self.assertEqual(read_script("-(" + low + ")")[1][0], "minus")

    def test_definitions(self):
        self.assertEqual(read_script("def f() = 1; def g(x) = x; def h(x, y) = f(); 2"), (
            (("f", (), ONE), ("g", ("x",), X), ("h", ("x", "y"), call("f"))), TWO))
        self.assertEqual(read_script("def f(a,b,c,d)=let x = a in x;1")[0][0][1], ("a", "b", "c", "d"))

    def test_names_and_definitions(self):
        self.assertEqual(read_script("def x() = 1; let x = 2 in x + x()"), (
            (("x", (), ONE),), ("let", "x", TWO, binary("+", X, call("x")))))
        self.fails(BadUse, "x", read_script, "let x = 1 in x()")
        self.fails(BadUse, "x", read_script, "def x() = 1; x")

    def test_reserved_words_are_no_names(self):
        for word in RESERVED:
            self.bad(4, f"def {word}() = 1; 1")
            self.bad(6, f"def f({word}) = 1; 1")
            self.bad(4, f"let {word} = 1 in 1")
            self.bad(5, f"fold {word} s in [] from 1 do 1")
            self.bad(7, f"fold x {word} in [] from 1 do 1")

    def test_words_that_cannot_begin_a_term(self):
        for word in "def in then else from do or and div mod == < <= = + * ) ] , ;".split():
            for before in ("(", "1 + ", "not ", "let x = ", "if ", "[", "[1,", "f(", "count("):
                if (before, word) not in (("[", "]"), ("f(", ")"), ("count(", ")")):
                    self.bad(len(before), before + word)
            if word != "def":
                self.bad(0, word)

    def test_functions_stand_before_a_bracket(self):
        for name in FUNCTIONS:
            self.bad(len(name), name)
            self.bad(len(name) + 1, name + " + 1")
            self.bad(len(name) + 2, "(" + name + " , 1)")
        for word in FACTS:
            self.bad(len(word), word + "()")

    def test_what_cannot_follow_a_term(self):
        for term in ("1", "true", "fail", "begins", "(1)", "[]", "count(1)", "-1", "1 + 1"):
            for word in "2 x true fail here count ( [ let if fold note not def = in then else from do ) ] , ;".split():
                self.bad(len(term) + 1, f"{term} {word}")
        for word in "2 true fail here count [ let if fold note not def = in then else from do ) ] , ;".split():
            self.bad(2, f"x {word}")

    def test_faults_of_each_rule(self):
        # The mark stands before the first token that cannot stand there, or at the end.
        for marked in [
            "def ^1() = 1; 1", "def f ^= 1; 1", "def f(^1) = 1; 1", "def f(x ^y) = 1; 1", "def f(x,^) = 1; 1",
            "def f(^,) = 1; 1", "def f(x^", "def f() ^1; 1", "def f() ^== 1; 1", "def f() = 1 ^1", "def f() = ^; 1",
            "def f() = 1; ^; 1", "def f() = 1; ^= 1", "def ^def f() = 1; 1", "1 ^def f() = 1; 1",
            "def f() = 1; (^def g() = 1; 1)", "def f() = ^def g() = 1; 1; 1", "1^;", "1 ^, 2",
            "let ^1 = 1 in 1", "let x ^1 in 1", "let x ^== 1 in 1", "let x = 1 ^then 1", "let x = 1 ^= 1 in 1",
            "let x = ^in 1", "let x = 1 in ^)", "let ^= 1 in 1",
            "if 1 ^else 2", "if 1 then 2 ^in 1", "if ^then 2 else 1", "if 1 then ^else 2", "if 1 then 2 else 3 ^else 4",
            "fold x ^in [] from 1 do 1", "fold x s ^from 1 do 1", "fold x s in [] ^do 1", "fold x s in [] from 1 ^then 1",
            "fold x s^, in [] from 1 do 1", "fold x s in ^from 1 do 1", "fold x s in [] from ^do 1",
            "fold x s in [] from 1 do ^", "fold ^(x, s) in [] from 1 do 1",
            "note 1 ^in 2", "note ^then 2", "note 1 then ^",
            "(^)", "(1 ^2)", "(1,^)", "(1, 2^, 3)", "(1, ^]", "(^, 1)", "(1^]", "(1 ^= 1)",
            "[^)", "[1 ^2]", "[1,^]", "[^,1]", "[1^)", "[1^;",
            "count(1,^)", "count(^,1)", "count(1 ^1)", "count(1^]", "item(1, 2, 3, ^", "count^[1]", "f(^in)",
            "1 + ^+ 1", "1 + ^* 1", "1 ^not 2", "1 - ^", "1 < ^< 2", "1 <= ^= 2", "^+ 1", "1 and ^or 2", "-^", "not ^",
            "1 or ^== 1", "1 ^= 1", "1 ^let x = 1 in x", "true^(1)", "1^(2)", "begins^()", "fail ^fail", "(1)^(2)",
        ]:
            self.bad(marked.index("^"), marked.replace("^", ""))

    def test_text_that_ends_too_early(self):
        whole = ("def f(x, y) = x; let a = [1, -2] in if not true then fold b c in (1, f(a, 2)) from 1 do b"
                 " else note 1 then 2")
        self.assertEqual(len(read_script(whole)[0]), 1)
        pieces = tokens(whole)
        for index, (word, place) in enumerate(pieces):
            if first_fault([token for token, _ in pieces[:index]]) is not None:
                self.bad(place, whole[:place])
                self.bad(place + 3, whole[:place] + "   ")
        self.bad(0, "")
        self.bad(3, "   ")
        self.bad(13, "def f() = 1; ")
        self.bad(12, "def f() = 1;")

    def test_first_fault_counts(self):
        self.bad(2, "1 2 3 (")
        self.bad(0, ") ) (")
        self.bad(4, "1 + ) let let")

    def test_made_up_texts_against_the_grammar(self):
        source = random.Random(2)
        extra = "def let in ( ) , [ ] x 1 first begins - not == and fold = ; then do from else note true".split()
        outcomes = {True: 0, False: 0}
        for _ in range(700):
            words = [word for word, _ in tokens(print_script(any_script(source, source.randint(1, 4))))]
            if len(words) > 35:
                continue
            self.compare(words)
            at = source.randint(0, len(words))
            kind = source.randint(0, 3)
            if kind == 0:
                words[at:at + 1] = [source.choice(words + extra)]
            elif kind == 1:
                words[at:at] = [source.choice(words + extra)]
            elif kind == 2:
                del words[at:at + 1]
            else:
                del words[at:]
            outcomes[self.compare(words)] += 1
        self.assertGreater(min(outcomes.values()), 30)

    def compare(self, words):
        """Compares the fault that reading finds with that of the grammar. Tells whether there is none."""
        text = "  ".join(words)
        places = [place for _, place in tokens(text)] + [len(text)]
        expected = first_fault(words)
        try:
            read_script(text)
            place = None
        except BadSyntax as error:
            place = error.what
        except (BadUse, DeepTerm):
            place = None
        except OverLimit:
            return False
        self.assertEqual(place, None if expected is None else places[expected], text)
        return place is None


if __name__ == "__main__":
    unittest.main()
