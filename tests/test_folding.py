"""keptcoin/scripts/folding.py (5.2, 5.3, and the rules 1 to 7 and 9 of 5.4)."""

import unittest

from keptcoin.scripts.folding import constant, constant_term, is_light, is_safe, root_rules
from keptcoin.scripts.terms import FACTS
from tests.helpers import FAIL, FALSE, TRUE, binary, call, fact, integer, listed, minus, number, read_term, variable
from tests.test_terms import FORMS

MOST = 10 ** 15
ARITHMETIC = "+ - * div mod".split()
COMPARISONS = "== < <=".split()
# Terms that are not safe, each for a reason of its own.
UNSAFE = ["a + b", "fail", "here", "let y = 1 in y", "note 1 then 2", "fold x y in [] from 0 do 1", "f()", "head([1])"]


def term(text):
    return read_term(text, definitions="def f() = 1; ")


class LightTest(unittest.TestCase):
    def test_forms(self):
        for one, _ in FORMS:
            self.assertIs(is_light(one), one[0] in ("number", "truth", "variable"), one)
        for one in (number(0), number(MOST), TRUE, FALSE, variable("x")):
            self.assertIs(is_light(one), True)
        self.assertIs(is_light(minus(number(1))), False)


class SafeTest(unittest.TestCase):
    def safe(self, *texts):
        for text in texts:
            self.assertIs(is_safe(term(text)), True, text)

    def unsafe(self, *texts):
        for text in texts:
            self.assertIs(is_safe(term(text)), False, text)

    def test_light_terms(self):
        self.safe("0", "7", str(MOST), "true", "false", "x")

    def test_facts(self):
        for word in FACTS:
            self.assertIs(is_safe(fact(word)), word != "here", word)

    def test_forms_that_are_never_safe(self):
        self.unsafe(*UNSAFE)
        self.unsafe("let y = 1 in 2", "note 1 then true", "fold x y in [1] from 0 do y")

    def test_forms_that_are_safe_with_safe_parts(self):
        for text in ("-{}", "not {}", "({}, 1)", "(1, {})", "[{}]", "[1, {}, 2]", "[1, 2, {}]", "if {} then 1 else 2",
                     "if true then {} else 2", "if true then 1 else {}", "-(not {})", "[(1, -{})]"):
            self.safe(text.format("x"), text.format("(1 < 2)"), text.format("signers"))
            self.unsafe(*[text.format(f"({inner})") for inner in UNSAFE])
        self.safe("[]", "[1, 2, 3, 4, 5, 6, 7, 8]")

    def test_signs(self):
        for sign in COMPARISONS + ["and", "or"]:
            self.safe(f"x {sign} 1", f"-x {sign} begins")
            self.unsafe(f"here {sign} x", f"x {sign} here")
        for sign in ARITHMETIC:
            self.unsafe(f"1 {sign} 1", f"x {sign} y")

    def test_functions(self):
        safe = {"first": 1, "second": 1, "count": 1, "data": 1, "keyed": 2, "homed": 1, "signed": 1, "spends": 2}
        for name, many in safe.items():
            self.assertIs(is_safe(call(name, *[variable("x")] * many)), True, name)
            for at in range(many):
                arguments = [variable("x")] * many
                arguments[at] = fact("here")
                self.assertIs(is_safe(call(name, *arguments)), False, name)
        for name, many in {"head": 1, "tail": 1, "item": 2, "coin": 1, "held": 2, "minted": 1}.items():
            self.assertIs(is_safe(call(name, *[variable("x")] * many)), False, name)

    def test_definitions(self):
        for name in ("f", "pair", "list", "number", "minus", "variable"):
            self.assertIs(is_safe(call(name)), False, name)
            self.assertIs(is_safe(call(name, number(1))), False, name)


class ConstantTest(unittest.TestCase):
    def test_constants(self):
        for n in (0, 1, 7, MOST):
            self.assertEqual(constant(number(n)), n)
        for n in (1, 7, MOST):
            self.assertEqual(constant(minus(number(n))), -n)

    def test_other_terms(self):
        self.assertIsNone(constant(minus(number(0))))
        self.assertIsNone(constant(minus(minus(number(1)))))
        for one, _ in FORMS:
            self.assertEqual(constant(one), {number(0): 0, number(MOST): MOST, minus(number(1)): -1}.get(one), one)
        self.assertIsNone(constant(TRUE))
        self.assertIsNone(constant(minus(variable("x"))))

    def test_written(self):
        for n in (0, 1, 9, MOST, 10 ** 40):
            self.assertEqual(constant_term(n), ("number", n))
        for n in (1, 9, MOST):
            self.assertEqual(constant_term(-n), ("minus", ("number", n)))
        for n in (-MOST, -1, 0, 1, MOST):
            self.assertEqual(constant(constant_term(n)), n)


class RulesTest(unittest.TestCase):
    def becomes(self, expected, *texts):
        for text in texts:
            self.assertEqual(root_rules(term(text)), term(expected), text)

    def stays(self, *texts):
        for text in texts:
            self.assertEqual(root_rules(term(text)), term(text), text)

    def test_terms_to_which_no_rule_applies(self):
        self.stays("0", "true", "x", "begins", "here", "fail", "[]", "[1, 2]", "(1, 2)", "note 1 then 2", "f()")
        self.stays("coin(here)", "held(here, 1)", "data(here)", "keyed(here, 1)", "homed(here)", "minted(1)",
                   "signed(1)", "spends(1, 2)")
        # These belong to the rules 8 and 10.
        self.stays("let x = 1 in x", "let x = 1 in 2", "let x = a in x + x")

    def test_rule_1(self):
        self.becomes("0", "-0", "--0")
        self.becomes("5", "--5")
        self.becomes("x", "--x", "not not x")
        self.becomes("a + b", "-(-(a + b))")
        self.becomes("-x", "---x")
        self.becomes("false", "not true")
        self.becomes("true", "not false")
        self.becomes("not x", "not not not x")
        self.stays("-5", "-x", "not x", "-(a + b)", "not (a < b)", "-(not x)", "not -x", "not 0")

    def test_rule_2_gives(self):
        for a, sign, b, value in [
            (2, "+", 3, 5), (2, "-", 3, -1), (3, "-", 3, 0), (-2, "*", 3, -6), (-7, "div", 2, -4), (7, "div", -2, -4),
            (-7, "mod", 2, 1), (7, "mod", -2, -1), (MOST, "+", 0, MOST), (MOST - 1, "+", 1, MOST), (0, "-", MOST, -MOST),
            (-MOST, "+", MOST, 0), (1 - MOST, "-", 1, -MOST), (10 ** 7, "*", 10 ** 8, MOST), (MOST, "*", -1, -MOST),
            (-MOST, "div", -1, MOST), (0, "div", 5, 0), (-MOST, "mod", MOST, 0), (0, "*", 0, 0), (0, "-", 0, 0),
        ]:
            self.assertEqual(root_rules(binary(sign, integer(a), integer(b))), integer(value), (a, sign, b))
        for a, sign, b, value in [(2, "==", 2, TRUE), (2, "==", -2, FALSE), (-3, "<", 2, TRUE), (2, "<", 2, FALSE),
                                  (3, "<", 2, FALSE), (2, "<=", 2, TRUE), (3, "<=", 2, FALSE), (-MOST, "<", MOST, TRUE)]:
            self.assertEqual(root_rules(binary(sign, integer(a), integer(b))), value, (a, sign, b))

    def test_rule_2_leaves_errors(self):
        for a, sign, b in [(MOST, "+", 1), (-MOST, "+", -1), (-MOST, "-", 1), (MOST, "-", -1), (MOST, "*", 2),
                           (10 ** 8, "*", -10 ** 8), (5, "div", 0), (0, "div", 0), (5, "mod", 0), (0, "mod", 0)]:
            one = binary(sign, integer(a), integer(b))
            self.assertEqual(root_rules(one), one)

    def test_rule_2_needs_two_constants(self):
        self.stays("2 + x", "x + 2", "2 < x", "-x + 2", "2 == begins", "(1 + 2) * (3 + 4)", "-(-2) + 3")
        minus_nothing = minus(number(0))
        for one in (binary("+", minus_nothing, number(2)), binary("<", number(2), minus_nothing)):
            self.assertEqual(root_rules(one), one)

    def test_rule_3(self):
        for text in ("x", "here", "a + b", "fail", "-0"):
            self.becomes(text, f"({text}) + 0", f"({text}) - 0", f"({text}) * 1", f"({text}) div 1", f"0 + ({text})",
                         f"1 * ({text})")
            self.becomes(f"-({text})", f"0 - ({text})")
        self.stays("x mod 0", "x * 2", "0 div x", "1 div x", "1 + x", "x + 1", "1 - x", "x - 1", "x div 0",
                   "0 mod x", "1 mod x", "0 == x", "x < 1", "x <= 0", "x + -0", "x * -1")

    def test_rule_3_stands_before_rule_4(self):
        self.becomes("x", "x - 0", "x * 1")
        self.becomes("-(-0)", "0 - -0")
        self.becomes("-0", "-0 * 1", "-0 + 0")

    def test_rule_4_for_one_safe_part(self):
        for text in ("x", "signed(1)", "-begins", "-0"):
            self.becomes("0", f"{text} * 0", f"0 * {text}", f"{text} mod 1")
        for text in UNSAFE:
            self.stays(f"({text}) * 0", f"0 * ({text})", f"({text}) mod 1")
        self.stays("x mod 2", "x * 2", "1 mod x", "x div 0", "x mod 0")

    def test_rule_4_for_the_same_safe_part(self):
        for text in ("x", "-x", "(if guarding then 1 else ends)", "begins", "count(spent)"):
            self.becomes("0", f"{text} - {text}")
            self.becomes("true", f"({text}) == ({text})", f"({text}) <= ({text})")
            self.becomes("false", f"({text}) < ({text})")
            for sign in ("+", "*", "div", "mod"):
                self.stays(f"{text} {sign} {text}")
        for text in UNSAFE:
            for sign in ("-", "==", "<", "<="):
                self.stays(f"({text}) {sign} ({text})")
        self.stays("x - y", "x == y", "x <= y", "x < y", "x - -x", "begins == ends")

    def test_rule_5_with_truths(self):
        for text in ("x", "here", "fail", "signed(a + b)"):
            self.becomes(text, f"true and {text}", f"{text} and true", f"false or {text}", f"{text} or false")
            self.becomes("false", f"false and {text}")
            self.becomes("true", f"true or {text}")
        for text in ("x", "signed(1)", "not x", "(a < b)"):
            self.becomes("false", f"{text} and false")
            self.becomes("true", f"{text} or true")
        for text in UNSAFE:
            self.stays(f"({text}) and false", f"({text}) or true")

    def test_rule_5_with_truths_alone(self):
        for a in ("true", "false"):
            for b in ("true", "false"):
                self.becomes("true" if "false" not in (a, b) else "false", f"{a} and {b}")
                self.becomes("true" if "true" in (a, b) else "false", f"{a} or {b}")

    def test_rule_5_with_the_same_part(self):
        for text in ("x", "signed(1)", "not x", "(a < b)"):
            self.becomes(text, f"{text} and {text}", f"{text} or {text}")
        for text in UNSAFE:
            self.stays(f"({text}) and ({text})", f"({text}) or ({text})")
        self.stays("x and y", "x or y", "x and not x", "x or not x")

    def test_rule_6(self):
        self.becomes("a", "if true then a else b", "if true then a else fail", "if true then a else a")
        self.becomes("b", "if false then a else b", "if false then fail else b")
        self.becomes("if x then b else a", "if not x then a else b")
        self.becomes("a", "if x then a else a", "if signed(1) then a else a")
        self.becomes("fail", "if x then fail else fail")
        self.becomes("x", "if x then true else false")
        self.becomes("not x", "if x then false else true")
        self.becomes("signed(a + b)", "if signed(a + b) then true else false")
        self.becomes("not signed(a + b)", "if signed(a + b) then false else true")
        self.stays("if x then a else b", "if fail then a else a", "if signed(a + b) then a else a",
                   "if x then true else y", "if x then y else false", "if x then false else y", "if x then 1 else 0")

    def test_rule_6_takes_the_first_that_fits(self):
        self.becomes("if x then a else a", "if not x then a else a")
        self.becomes("if x then false else true", "if not x then true else false")
        self.becomes("if fail then b else a", "if not fail then a else b")
        self.becomes("true", "if x then true else true")
        self.becomes("false", "if x then false else false")
        self.stays("if signed(a + b) then true else true", "if here then false else false")

    def test_rule_7_pairs(self):
        self.becomes("a + b", "first((a + b, x))", "second((x, a + b))")
        self.becomes("x", "first((x, y))", "second((y, x))")
        for text in UNSAFE:
            self.stays(f"first((x, {text}))", f"second(({text}, x))")
        self.stays("first(x)", "second(x)", "first([1, 2])", "count((1, 2))", "head((1, 2))", "first(first((1, 2)))")

    def test_rule_7_count(self):
        self.becomes("0", "count([])")
        self.becomes("1", "count([x])")
        self.becomes("8", "count([1, 2, 3, 4, 5, 6, 7, x])")
        for text in UNSAFE:
            self.stays(f"count([{text}])", f"count([1, {text}])", f"count([{text}, 1])")
        self.stays("count(x)", "count(spent)")

    def test_rule_7_head(self):
        self.becomes("a + b", "head([a + b])", "head([a + b, x, 1])")
        for text in UNSAFE:
            self.stays(f"head([1, {text}])", f"head([x, 1, {text}, 2])")
            self.becomes(f"({text})", f"head([{text}])")
        self.stays("head([])", "head(x)", "head(signers)")

    def test_rule_7_tail(self):
        self.becomes("[]", "tail([x])")
        self.becomes("[a + b, fail]", "tail([x, a + b, fail])")
        for text in UNSAFE:
            self.stays(f"tail([{text}])", f"tail([{text}, 1])")
        self.stays("tail([])", "tail(x)", "tail(signers)")

    def test_rule_7_item(self):
        self.becomes("a + b", "item([a + b], 0)", "item([1, a + b], 1)", "item([x, a + b, y], 1)",
                     "item([1, 2, 3, 4, 5, 6, 7, a + b], 7)")
        for text in UNSAFE:
            self.stays(f"item([1, {text}], 0)", f"item([{text}, 1], 1)", f"item([1, 2, {text}], 1)")
        self.stays("item([], 0)", "item([1], 1)", "item([1, 2], 2)", "item([1, 2], x)", "item(x, 0)", "item([1], -0)",
                   "item([1, 2], -1)", f"item([1], {MOST})", "item(signers, 0)")

    def test_rule_9(self):
        self.becomes("a", "fold x y in [] from a do x + y", "fold x y in [] from a do fail")
        self.becomes("fail", "fold x y in [] from fail do 1")
        self.becomes("a + b", "fold x y in signers from a + b do y", "fold x y in [1, 2] from a + b do y")
        self.becomes("a", "fold x y in b from a do y")
        for text in UNSAFE:
            self.stays(f"fold x y in {text} from a do y")
        self.stays("fold x y in [1] from a do x", "fold x y in [1] from a do b", "fold x y in [1] from a do y + 0",
                   "fold x y in signers from 0 do x + y", "fold x y in [1] from y do x")

    def test_parts_are_taken_as_they_are(self):
        self.stays("(1 + 2) + x", "[1 + 2]", "(-0, 1 + 1)", "a * (0 + 0)")
        self.becomes("1 + 2", "(1 + 2) + 0")
        self.becomes("not not x", "true and not not x")

    def test_what_comes_is_not_simplified_again(self):
        self.becomes("-(0 - x)", "0 - (0 - x)")
        self.becomes("if not x then b else a", "if not not x then a else b")
        self.becomes("true and true", "first((true and true, 1))")


if __name__ == "__main__":
    unittest.main()
