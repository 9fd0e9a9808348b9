"""keptcoin/scripts/simplify.py (5.4 to 5.6)."""

import random
import unittest

from keptcoin.scripts.bounds import step_bound
from keptcoin.scripts.folding import root_rules
from keptcoin.scripts.inference import infer_script
from keptcoin.scripts.meaning import evaluate
from keptcoin.scripts.printing import print_script
from keptcoin.scripts.reader import read_script
from keptcoin.scripts.simplify import simplify_script, simplify_term
from keptcoin.scripts.terms import depth, size, terms_of
from tests.helpers import TRUE, binary, call, fact, listed, minus, nested, number, read_term, variable
from tests.making import any_facts, complicated, kinded_script
from tests.test_terms import FORMS


class TermTest(unittest.TestCase):
    def becomes(self, expected, *texts):
        for text in texts:
            self.assertEqual(simplify_term(read_term(text), {}), read_term(expected), text)

    def stays(self, *texts):
        for text in texts:
            self.becomes(text, text)

    def test_terms_to_which_no_rule_applies(self):
        for term, inner in FORMS:
            if not inner:
                self.assertEqual(simplify_term(term, {}), term)
        self.stays("-x", "not x", "a + b", "[a, b]", "(a, b)", "note a then b", "if x then a else b", "head(x)",
                   "fold x y in signers from 0 do x + y", "let x = a + b in x * x")

    def test_rules_of_one_term(self):
        self.becomes("3", "1 + 2")
        self.becomes("x", "x * 1", "--x", "x and true", "if true then x else fail", "first((x, 1))", "head([x, y])")
        self.becomes("a", "fold x y in [] from a do fail")

    def test_parts_first(self):
        self.becomes("7", "1 + 2 * 3", "-(3 - 10)", "count([1, 2, 3]) + 4", "let y = 7 in y")
        self.becomes("[3, a]", "[1 + 2, a + 0]")
        self.becomes("(3, true)", "(1 + 2, not false)")
        self.becomes("note 3 then a", "note 1 + 2 then a * 1")
        self.becomes("coin(here)", "coin(first((here, -(1 + 2))))")
        self.becomes("fold x y in [3] from 4 do x + y", "fold x y in [1 + 2] from 2 * 2 do x * 1 + (y + 0)")
        self.becomes("if x then 3 else 7", "if not not x then 1 + 2 else 3 + 4")
        self.becomes("a", "if 1 < 2 then a else fail", "item([1, a], 0 + 1)")
        self.becomes("0", "(x - x) + 0")

    def test_what_comes_of_a_rule_is_not_simplified_again(self):
        # Only putting makes these sums, and nothing is applied to them afterwards.
        self.becomes("1 + 2", "let x = 1 in x + 2")
        self.becomes("if true then a else b", "let x = true in if x then a else b")
        self.becomes("if x then a else a", "if not x then a else a")
        self.becomes("if x then false else true", "if not x then true else false")
        self.becomes("--x", "0 - -x")
        self.becomes("[1 - 1, 0 * a]", "let x = 1 in [1 - x, let y = 0 in y * a]")

    def test_rule_above_simplifies_what_came_below(self):
        self.becomes("3", "0 + (let x = 1 in 3)")
        self.becomes("(1 + 2) + a", "(let x = 1 in x + 2) + a")
        self.becomes("1 + 2", "(let x = 1 in x + 2) + 0")

    def test_no_part_is_simplified_twice(self):
        # The inner one becomes minus of minus x; minus of that is minus x.
        self.becomes("-x", "-(0 - -x)")

    def test_rule_8_for_the_variable_itself(self):
        self.becomes("a + b", "let x = a + b in x")
        self.becomes("fail", "let x = fail in x")
        self.becomes("here", "let x = here in x")
        self.becomes("note 1 then 2", "let x = note 1 then 2 in x * 1")
        self.becomes("x", "let x = x in x")

    def test_rule_8_for_light_terms(self):
        self.becomes("5 + b", "let x = 5 in x + b")
        self.becomes("y + y * y", "let x = y in x + x * x")
        self.becomes("[true, true]", "let x = true in [x, x]")
        self.becomes("a + b", "let x = 5 in a + b")
        self.becomes("x + b", "let x = x in x + b")
        self.becomes("fold a y in [5] from 5 do a + y + 5", "let x = 5 in fold a y in [x] from x do a + y + x")
        self.becomes("(let x = a + b in x * x) + y", "let x = y in (let x = a + b in x * x) + x")
        self.stays("let x = -5 in x + b", "let x = begins in x + b", "let x = [] in (x, x)")

    def test_rule_8_without_capturing(self):
        self.stays("let x = y in let y = a + b in x * y")
        self.stays("let x = y in fold y b in signers from a do x * y + b")
        self.stays("let x = y in fold a y in signers from b do x * y + a")
        self.becomes("let a = a + b in y * a", "let x = y in let a = a + b in x * a")
        self.becomes("let x = a + b in x * x", "let y = x in let x = a + b in x * x")
        self.becomes("let y = y + b in y * y", "let x = y in let y = x + b in y * y")
        self.becomes("let y = a + b in 5 * y", "let x = 5 in let y = a + b in x * y")

    def test_rule_8_for_safe_terms(self):
        for text in ("-a", "begins", "signed(1)", "[a, (1, true)]"):
            self.becomes("b + y", f"let x = {text} in b + y")
            self.becomes("let x = a + b in x * x", f"let x = {text} in let x = a + b in x * x")
            self.stays(f"let x = {text} in (x, b)")
        for text in ("a + b", "here", "fail", "note 1 then 2", "head(a)"):
            self.stays(f"let x = {text} in b")

    def test_rule_9(self):
        self.becomes("3", "fold x y in [] from 1 + 2 do x + y", "fold x y in signers from 3 do y + 0")
        self.becomes("a", "fold x y in tail([1]) from a do x + y")

    def test_nothing_is_modified(self):
        term = read_term("let x = 1 in (x + 2) * 1 + 0")
        copy = read_term("let x = 1 in (x + 2) * 1 + 0")
        definitions = {"f": (("x",), variable("x"))}
        simplify_term(term, definitions)
        self.assertEqual(term, copy)
        self.assertEqual(definitions, {"f": (("x",), variable("x"))})

    def test_other_forms_follow_the_rules_of_one_term(self):
        for term, _ in FORMS:
            if term[0] not in ("let", "call"):
                self.assertEqual(simplify_term(term, {}), root_rules(term))


class CallTest(unittest.TestCase):
    """Rule 10."""

    def called(self, parameters, term, *arguments):
        return simplify_term(call("f", *arguments), {"f": (parameters, term)})

    def test_light_arguments(self):
        inner = binary("+", variable("x"), variable("y"))
        for x, y in [(number(1), number(2)), (variable("y"), variable("x")), (TRUE, variable("z"))]:
            self.assertEqual(self.called(("x", "y"), inner, x, y), binary("+", x, y))

    def test_no_argument(self):
        self.assertEqual(self.called((), fact("here")), fact("here"))
        self.assertEqual(self.called((), ("fail",)), ("fail",))

    def test_arguments_that_are_not_light(self):
        for argument in (minus(number(1)), fact("begins"), listed()):
            term = call("f", number(1), argument)
            self.assertEqual(self.called(("x", "y"), variable("x"), number(1), argument), term)
            term = call("f", argument, number(1))
            self.assertEqual(self.called(("x", "y"), variable("y"), argument, number(1)), term)

    def test_arguments_are_simplified_first(self):
        argument = binary("+", number(1), number(2))
        self.assertEqual(self.called(("x",), minus(variable("x")), argument), minus(number(3)))
        argument = binary("-", number(1), number(2))
        self.assertEqual(self.called(("x",), variable("x"), argument), call("f", minus(number(1))))

    def test_size(self):
        for times, fits in [(6, True), (7, True), (8, False), (9, False)]:
            inner = nested("minus", times, variable("x"))
            self.assertEqual(size(inner), times + 1)
            expected = nested("minus", times, number(5)) if fits else call("f", number(5))
            self.assertEqual(self.called(("x",), inner, number(5)), expected)
        inner = listed(*[variable("x")] * 7)
        self.assertEqual(self.called(("x",), inner, TRUE), listed(*[TRUE] * 7))
        inner = listed(*[variable("x")] * 8)
        self.assertEqual(self.called(("x",), inner, TRUE), call("f", TRUE))

    def test_capturing(self):
        inner = read_term("let y = a + b in x * y")
        self.assertEqual(self.called(("x", "a", "b"), inner, variable("y"), number(1), number(2)),
                         call("f", variable("y"), number(1), number(2)))
        self.assertEqual(self.called(("x", "a", "b"), inner, number(7), variable("y"), number(2)),
                         read_term("let y = y + 2 in 7 * y"))
        inner = read_term("fold a y in signers from 1 do x")
        for name, fits in [("a", False), ("y", False), ("b", True)]:
            expected = read_term("fold a y in signers from 1 do b") if fits else call("f", variable(name))
            self.assertEqual(self.called(("x",), inner, variable(name)), expected)

    def test_all_at_once(self):
        self.assertEqual(self.called(("x", "y"), ("pair", variable("x"), variable("y")), variable("y"), variable("x")),
                         ("pair", variable("y"), variable("x")))

    def test_what_comes_is_not_simplified_again(self):
        self.assertEqual(self.called(("x",), binary("+", variable("x"), number(1)), number(2)),
                         binary("+", number(2), number(1)))
        definitions = {"g": (("x",), variable("x")), "f": ((), call("g", number(1)))}
        self.assertEqual(simplify_term(call("f"), definitions), call("g", number(1)))

    def test_functions_are_no_definitions(self):
        self.assertEqual(simplify_term(call("count", listed()), {"f": ((), number(5))}), number(0))


class ScriptTest(unittest.TestCase):
    def becomes(self, expected, text):
        found = simplify_script(read_script(text))
        self.assertEqual(print_script(found), expected)
        self.assertEqual(found, read_script(expected))

    def test_body_and_definitions(self):
        self.becomes("3", "1 + 2")
        self.becomes("def f(x) = x div 0; f(-3)", "def f(x) = x * 1 div 0; f(1 - 4)")
        self.becomes("-4", "def f(x) = -(x + 0); f(4)")

    def test_definitions_that_are_not_reached(self):
        self.becomes("1", "def f(x) = x + 1; 1")
        self.becomes("1", "def f(x) = x + 1; def g(x) = f(-x) * 2; 1")
        self.becomes("def g(x) = x * 2; g(-1)", "def f(x) = x + 1; def g(x) = x * 2; def h(x) = g(-x); g(-1)")

    def test_definitions_that_others_reach(self):
        text = "def f(x) = x + 1; def g(x) = f(-x) * 2; g(-1)"
        self.becomes(text, text)
        self.becomes("def f(x) = x + 1; def h(x) = f(-x); h(-1)",
                     "def f(x) = x + 1; def g(x) = x; def h(x) = f(-x); def i(x) = g(-x) + h(-x); h(-1)")
        self.becomes("def f(x) = x + 1; f(f(-1))", "def f(x) = x + 1; def g(x) = f(-x); f(f(-1))")

    def test_order_stays(self):
        text = "def f(x) = x + 1; def g(x) = x * 2; def h(x) = x div 2; h(-1) + f(-2) + g(-3)"
        self.becomes(text, text)
        self.becomes("def f(x) = x + 1; def h(x) = x div 2; h(-1) + f(-2)",
                     "def f(x) = x + 1; def g(x) = x * 2; def h(x) = x div 2; h(-1) + f(-2)")

    def test_calls_that_are_gone_need_no_definition(self):
        self.becomes("5", "def f(x) = x; f(5)")
        self.becomes("2", "def f(x) = x + 1; if true then 2 else f(-1)")
        self.becomes("2", "def f(x) = x + 1; def g(x) = f(-1); if true then 2 else g(-1)")
        self.becomes("2 + 1", "def f(x) = x + 1; def g(x) = f(x); g(2)")

    def test_a_simplified_term_is_put(self):
        # The term has the size 9 as it was read and the size 7 when it is simplified.
        self.becomes("if 1 < 5 then 1 else 5", "def less(x, y) = if not (x < y) then y else x * 1; less(1, 5)")

    def test_calls_in_definitions(self):
        self.becomes("def g(x) = (x + 1) * (x + 1); g(-2)", "def f(x) = x + 1; def g(x) = f(x) * f(x); g(-2)")

    def test_names_of_words(self):
        self.becomes("def pair(x) = x + 1; def list(x) = pair(-x); list(-1)",
                     "def pair(x) = x + 1; def list(x) = pair(-x); list(-1)")

    def test_kinds_of_the_answer(self):
        definitions, body = simplify_script(read_script("def f(x) = x + 1; f(-1)"))
        self.assertIsInstance(definitions, tuple)
        self.assertEqual(definitions, (("f", ("x",), binary("+", variable("x"), number(1))),))
        self.assertEqual(body, call("f", minus(number(1))))
        self.assertIsInstance(simplify_script(((), number(1))), tuple)

    def test_depth_may_grow(self):
        term = variable("x")
        for _ in range(3):
            term = ("pair", term, number(1))
        body = call("f", number(1))
        for _ in range(15):
            body = ("pair", body, number(2))
        script = ((("f", ("x",), term),), body)
        simple = simplify_script(script)
        self.assertEqual(max([depth(one) for one in terms_of(simple)]), 19)
        self.assertEqual(evaluate(simple, any_facts(random.Random(1)))[:2],
                         evaluate(script, any_facts(random.Random(1)))[:2])


class SameOutcomeTest(unittest.TestCase):
    """5.6."""

    def compare(self, script, facts, budget):
        simple = simplify_script(script)
        before = evaluate(script, facts, budget=budget)
        after = evaluate(simple, facts, budget=budget)
        self.assertLessEqual(step_bound(simple), step_bound(script))
        for many in (0, 1, 3):
            self.assertLessEqual(step_bound(simple, many), step_bound(script, many))
        if before[0] != "tired":
            self.assertEqual(after[:3], before[:3], print_script(script))
            self.assertLessEqual(after[3], before[3])
        return before, after, simple

    def test_made_up_scripts(self):
        source = random.Random(12)
        endings, shorter, smaller = {}, 0, 0
        for _ in range(1500):
            script, kind = kinded_script(source, source.randint(1, 5))
            if source.random() < 0.8:
                script = complicated(source, script)
            if max([depth(term) for term in terms_of(script)]) > 16:
                continue
            for _ in range(2):
                facts = any_facts(source)
                before, after, simple = self.compare(script, facts, source.choice([5000, 5000, 40, 10]))
                endings[before[0]] = True
                shorter += after[3] < before[3]
            smaller += simple != script
            # Putting what may have more kinds can only make the kind of the whole more general.
            self.assertIsNotNone(infer_script(simple))
        self.assertEqual(sorted(endings), ["division", "fail", "missing", "nowhere", "range", "tired", "value"])
        self.assertGreater(shorter, 500)
        self.assertGreater(smaller, 500)

    def test_errors_stay(self):
        facts = any_facts(random.Random(2))
        for text, ending in [("(1 + fail) * 0", "fail"), ("let x = 1 div 0 in 5", "division"), ("fail and false", "fail"),
                             ("count([head([])])", "missing"), ("first((1, 10 * 1000000000000000))", "range"),
                             ("if fail then 1 else 1", "fail"), ("fold x y in tail([]) from 1 do y", "missing"),
                             ("(begins div 0) mod 1", "division"), ("item([1, 2], 2)", "missing")]:
            before, after, _ = self.compare(read_script(text), facts, 5000)
            self.assertEqual((before[0], after[0]), (ending, ending), text)

    def test_notes_stay(self):
        facts = any_facts(random.Random(3))
        for text in ("count([note 1 then 2])", "(note 1 then 2) - (note 1 then 2)", "let x = note 1 then 2 in 3",
                     "second((note 1 then 2, 3))", "if (note 1 then true) then 5 else 5", "(note 7 then true) or true"):
            before, after, _ = self.compare(read_script(text), facts, 5000)
            self.assertEqual(after, before, text)


if __name__ == "__main__":
    unittest.main()
