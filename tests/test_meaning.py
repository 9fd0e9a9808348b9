"""keptcoin/scripts/meaning.py (4.3 to 4.8)."""

import random
import unittest

from keptcoin.amounts.assets import COIN
from keptcoin.amounts.bundle import Bundle
from keptcoin.scripts.facts import Facts
from keptcoin.scripts.meaning import BUDGET, evaluate, verdict_of
from keptcoin.scripts.reader import read_script
from tests.helpers import FAIL, TRUE, binary, call, fact, integer, listed, minus, number, variable
from tests.making import kinded_script

MOST = 10 ** 15
ROWS = [((1, n), ("key", n), Bundle.of_coin(10 * n), (n, n + 1)) for n in range(8)]
FACTS = Facts(begins=3, ends=9, signers=[4, 6], spent=ROWS[:3], made=ROWS[3:4], datum=[7, 8, 9], redeemer=[2])


def outcome(text, facts=FACTS, **more):
    return evaluate(read_script(text), facts, **more)


class MeaningTest(unittest.TestCase):
    def gives(self, value, text, facts=FACTS):
        ending, found, notes, steps = outcome(text, facts)
        self.assertEqual((ending, found), ("value", value), text)
        self.assertIs(found.__class__, value.__class__, text)

    def ends(self, ending, text, notes=(), facts=FACTS):
        self.assertEqual(outcome(text, facts)[:3], (ending, None, notes), text)

    def steps(self, steps, text):
        self.assertEqual(outcome(text)[3], steps, text)

    def test_of_the_interface(self):
        body = ("note", number(4), binary("<", fact("begins"), number(9)))
        self.assertEqual(evaluate(((), body), Facts(begins=3)), ("value", True, (4,), 5))

    def test_outcome_is_a_tuple(self):
        answer = outcome("1")
        self.assertEqual(answer, ("value", 1, (), 1))
        self.assertIsInstance(answer, tuple)
        self.assertIsInstance(answer[2], tuple)

    def test_simple_terms(self):
        self.gives(0, "0")
        self.gives(MOST, str(MOST))
        self.gives(True, "true")
        self.gives(False, "false")
        self.ends("fail", "fail")
        self.gives(-5, "-5")
        self.gives(5, "--5")
        self.gives(-MOST, f"-{MOST}")
        self.gives(False, "not true")
        self.gives(True, "not false")
        self.gives(("pair", 1, True), "(1, true)")
        self.gives(("list", ()), "[]")
        self.gives(("list", (1, -2, 5)), "[1, -2, 2 + 3]")
        self.gives(("list", tuple(range(8))), "[0, 1, 2, 3, 4, 5, 6, 7]")
        self.gives(3, "begins")
        self.gives(("list", (7, 8, 9)), "datum")

    def test_operators_at_the_edges(self):
        for a, sign, b, value in [
            (MOST - 1, "+", 1, MOST), (1 - MOST, "-", 1, -MOST), (10 ** 7, "*", 10 ** 8, MOST), (MOST, "*", -1, -MOST),
            (-MOST, "div", -1, MOST), (-7, "div", 2, -4), (7, "div", -2, -4), (-7, "mod", 2, 1), (7, "mod", -2, -1),
            (-MOST, "mod", MOST, 0), (MOST, "==", MOST, True), (MOST, "==", MOST - 1, False), (-MOST, "<", MOST, True),
            (3, "<", 3, False), (3, "<=", 3, True), (4, "<=", 3, False),
        ]:
            self.assertEqual(evaluate(((), binary(sign, integer(a), integer(b))), FACTS)[:2], ("value", value))
        for a, sign, b, ending in [
            (MOST, "+", 1, "range"), (-MOST, "+", -1, "range"), (-MOST, "-", 1, "range"), (MOST, "-", -1, "range"),
            (MOST, "*", 2, "range"), (10 ** 8, "*", -10 ** 8, "range"), (5, "div", 0, "division"),
            (0, "mod", 0, "division"),
        ]:
            self.assertEqual(evaluate(((), binary(sign, integer(a), integer(b))), FACTS)[:2], (ending, None))

    def test_operators_evaluate_both_parts_first(self):
        for sign in "+ - * div mod == < <=".split():
            self.ends("fail", f"(note 1 then 5) {sign} (note 2 then fail)", (1, 2))
            self.ends("fail", f"(note 1 then fail) {sign} (note 2 then 1)", (1,))
        self.ends("division", "(note 1 then 5) div (note 2 then 0)", (1, 2))

    def test_and_or(self):
        for a in ("true", "false"):
            for b in ("true", "false"):
                self.gives(a == "true" and b == "true", f"{a} and {b}")
                self.gives(a == "true" or b == "true", f"{a} or {b}")
        self.gives(False, "false and fail")
        self.gives(True, "true or fail")
        self.ends("fail", "true and fail")
        self.ends("fail", "false or fail")
        self.ends("fail", "fail and false")
        self.ends("fail", "fail or true")
        self.steps(2, "false and (true and true)")
        self.steps(2, "true or (true and true)")
        self.steps(5, "true and (true and true)")
        self.assertEqual(outcome("false and (note 1 then true)")[2], ())
        self.assertEqual(outcome("false or (note 1 then true)")[2], (1,))

    def test_if(self):
        self.gives(1, "if true then 1 else fail")
        self.gives(2, "if false then fail else 2")
        self.ends("fail", "if fail then 1 else 2")
        self.steps(3, "if true then 1 else 1 + 1")
        self.steps(5, "if false then 1 else 1 + 1")
        self.assertEqual(outcome("if true then note 1 then 2 else note 3 then 4")[:3], ("value", 2, (1,)))

    def test_note(self):
        self.assertEqual(outcome("note 5 then note -6 then 7"), ("value", 7, (5, -6), 6))
        self.assertEqual(outcome("note (note 1 then 2) then 3"), ("value", 3, (1, 2), 5))
        self.ends("fail", "note 5 then note 6 then fail", (5, 6))
        self.ends("fail", "note 5 then note fail then 6", (5,))
        self.ends("division", "note 1 then note 1 div 0 then 2", (1,))
        self.assertEqual(outcome("[note 1 then 1, note 2 then 2, note 3 then 3]")[2], (1, 2, 3))
        self.assertEqual(outcome("(note 1 then 1, note 2 then 2)")[2], (1, 2))
        self.assertEqual(outcome("item([note 1 then 1], note 2 then 0)")[2], (1, 2))

    def test_let(self):
        self.gives(3, "let x = 1 in x + 2")
        self.gives(1, "let x = 1 in (let x = 2 in x) * 0 + x")
        self.gives(5, "let x = 1 in let x = x + 4 in x")
        self.ends("fail", "let x = fail in 1")
        self.assertEqual(outcome("let x = note 1 then 2 in x + x"), ("value", 4, (1,), 7))

    def test_fold(self):
        self.gives(24, "fold x s in datum from 0 do x + s")
        self.gives(0, "fold x s in [] from 0 do fail")
        self.gives(123, "fold x s in [1, 2, 3] from 0 do s * 10 + x")
        self.gives(5, "fold x s in [1, 2, 3] from 5 do s")
        self.gives(3, "fold x s in [1, 2, 3] from 5 do x")
        self.assertEqual(outcome("fold x s in [1, 2, 3] from note 9 then 0 do note x then note s then x")[2],
                         (9, 1, 0, 2, 1, 3, 2))
        self.ends("fail", "fold x s in fail from note 1 then 1 do 1")
        self.ends("fail", "fold x s in note 1 then [1] from fail do 1", (1,))
        self.ends("division", "fold x s in [1, 0, 2] from 6 do note x then s div x", (1, 0))
        self.steps(3, "fold x s in [] from 0 do x + s")
        self.steps(1 + 4 + 1 + 9, "fold x s in [1, 2, 3] from 0 do x + s")
        self.gives(30, "fold o s in spent from 0 do s + coin(o)")

    def test_variables_hide_one_another(self):
        self.gives(3, "let x = 1 in fold x s in [2, 3] from 0 do x")
        self.gives(2, "let s = 1 in fold x s in [2, 3] from 0 do s + 1")
        self.gives(6, "let x = 1 in (fold x s in [2, 3] from 0 do s + x) + x")
        self.gives(11, "let x = 1 in fold x s in [x, x + 1] from x do (let s = s * 2 in s + x) + 1")
        self.gives(4, "let x = 1 in let y = 2 in let x = y in x + y")
        self.gives(1, "fold x s in [1, 2] from 0 do let x = 1 in x")
        self.gives(12, "fold x s in [1, 2] from 0 do s * 10 + (fold x s in [x] from 0 do x)")

    def test_calls_of_definitions(self):
        self.gives(7, "def f(x, y) = x * 2 + y; f(3, 1)")
        self.gives(5, "def f() = 5; f()")
        self.gives(1, "def f(x) = x; let y = 1 in let x = 2 in f(y)")
        self.gives(20, "def f(x) = x + 1; def g(x) = f(x * 2) + f(x); g(6)")
        self.gives(("pair", 2, 1), "def f(x, y) = (y, x); f(1, 2)")
        self.ends("fail", "def f(x) = 1; f(fail)")
        self.gives(1, "def f() = fail; 1")
        self.assertEqual(outcome("def f(x, y) = note 3 then x; f(note 1 then 1, note 2 then 2)")[2], (1, 2, 3))
        self.steps(1, "def f(x) = x; 1")
        self.steps(3, "def f(x) = x; f(1)")
        self.steps(6, "def f(x) = x + x; f(-1)")

    def test_parameters_and_nothing_else_are_bound(self):
        script = ((("f", ("x",), ("let", "y", variable("x"), binary("+", variable("x"), variable("y")))),),
                  ("let", "x", number(5), ("let", "y", number(7), call("f", number(1)))))
        self.assertEqual(evaluate(script, FACTS)[1], 2)

    def test_calls_of_functions(self):
        self.gives(7, "head(datum)")
        self.gives(("list", (8, 9)), "tail(datum)")
        self.gives(9, "item(datum, 2)")
        self.gives(3, "count(spent)")
        self.gives(20, "coin(item(spent, 2))")
        self.gives(("list", (2, 3)), "data(item(spent, 2))")
        self.gives(True, "keyed(head(made), 3)")
        self.gives(True, "signed(6)")
        self.gives(False, "signed(5)")
        self.gives(True, "spends(1, 2)")
        self.gives(False, "spends(1, 3)")
        self.gives(2, "second((1, 2))")

    def test_each_ending(self):
        for ending, text in [("fail", "1 + fail"), ("division", "1 + 1 div 0"), ("range", f"1 + {MOST} * 2"),
                             ("missing", "1 + head([])"), ("nowhere", "1 + coin(here)")]:
            self.ends(ending, text)
            self.ends(ending, f"note 5 then {text}", (5,))
            self.assertEqual(outcome(f"note 5 then {text}"), (ending, None, (5,), outcome(text)[3] + 2))
        self.ends("missing", "item(datum, 3)")
        self.ends("missing", "tail(tail([1]))")
        self.ends("range", "coin(here)", facts=Facts(here=((1, 1), ("key", 1), Bundle.of_coin(MOST + 1), ())))
        self.gives(MOST, "coin(here)", facts=Facts(here=((1, 1), ("key", 1), Bundle.of_coin(MOST), ())))

    def test_first_error_counts(self):
        self.ends("fail", "fail + 1 div 0")
        self.ends("division", "1 div 0 + fail")
        self.ends("missing", "[head([]), fail]")
        self.ends("nowhere", "held(here, fail)")

    def test_values(self):
        self.gives(("output", ROWS[0]), "head(spent)")
        self.gives(("list", (("output", ROWS[3]),)), "made")
        self.gives(("pair", ("list", ()), ("pair", 1, False)), "([], (1, false))")

    def test_steps(self):
        for steps, text in [(1, "1"), (2, "-1"), (3, "1 + 1"), (5, "1 + 1 + 1"), (3, "(1, 2)"), (1, "[]"),
                            (4, "[1, 2, 3]"), (3, "let x = 1 in x"), (3, "note 1 then 2"), (2, "count(spent)"),
                            (2, "-fail"), (3, "1 + fail"), (2, "fail + 1")]:
            self.steps(steps, text)

    def test_every_budget(self):
        for text in ("1", "fold x s in datum from 0 do note x then x + s", "note 1 then 1 + 1 div 0",
                     "def f(x) = if x then fail else note 4 then 2; (note 1 then 1, f(false))", "note 1 then fail"):
            whole = outcome(text)
            for budget in range(whole[3]):
                ending, value, notes, steps = outcome(text, budget=budget)
                self.assertEqual((ending, value, steps), ("tired", None, budget))
                self.assertEqual(notes, whole[2][:len(notes)])
            for budget in (whole[3], whole[3] + 1, 10 ** 6):
                self.assertEqual(outcome(text, budget=budget), whole)

    def test_budget_of_nothing(self):
        self.assertEqual(outcome("1", budget=0), ("tired", None, (), 0))
        self.assertEqual(outcome("fail", budget=0), ("tired", None, (), 0))
        self.assertEqual(outcome("fail", budget=1), ("fail", None, (), 1))

    def test_notes_before_the_end_of_the_budget(self):
        text = "note 1 then note 2 then 3"
        self.assertEqual(outcome(text, budget=1), ("tired", None, (), 1))
        self.assertEqual(outcome(text, budget=2), ("tired", None, (1,), 2))
        self.assertEqual(outcome(text, budget=3), ("tired", None, (1,), 3))
        self.assertEqual(outcome(text, budget=4), ("tired", None, (1, 2), 4))
        self.assertEqual(outcome(text, budget=5), ("value", 3, (1, 2), 5))

    def rounds(self, term, times):
        """Folds within one another with 8 rounds each; each one takes 11 steps and 8 times those of its third part."""
        for _ in range(times):
            term = ("fold", "a", "s", listed(*[number(1)] * 8), number(0), term)
        return term

    def test_budget_that_holds_if_none_is_passed(self):
        self.assertEqual(BUDGET, 5000)
        term, left = number(0), 4999
        for times, steps in [(0, 1), (1, 19), (2, 163), (3, 1315)][::-1]:
            piece = self.rounds(number(0), times)
            self.assertEqual(evaluate(((), piece), FACTS)[3], steps)
            while left > steps:
                term, left = ("note", piece, term), left - steps - 1
        term = minus(term)
        self.assertEqual(left, 1)
        self.assertEqual(evaluate(((), term), FACTS)[0::3], ("value", 5000))
        self.assertEqual(evaluate(((), minus(term)), FACTS)[0::3], ("tired", 5000))
        self.assertEqual(evaluate(((), minus(term)), FACTS, budget=5001)[0::3], ("value", 5001))

    def test_large_budget(self):
        term = self.rounds(number(0), 6)
        ending, value, notes, steps = evaluate(((), term), FACTS, budget=10 ** 6)
        self.assertEqual((ending, value, steps), ("value", 0, 8 ** 6 + 11 * sum([8 ** k for k in range(6)])))

    def test_deep_scripts(self):
        definitions, called = [], None
        for name in ("a", "b", "c", "d", "e", "f"):
            term = variable("x") if called is None else call(called, variable("x"))
            for _ in range(22):
                term = ("let", "y", number(1), term)
            definitions.append((name, ("x",), term))
            called = name
        body = call("f", number(4))
        for _ in range(22):
            body = ("if", TRUE, body, FAIL)
        self.assertEqual(evaluate((tuple(definitions), body), FACTS)[:2], ("value", 4))

    def test_verdicts(self):
        for answer, verdict in [(("value", True, (), 1), True), (("value", False, (1,), 9), False),
                                (("value", 7, (), 1), 7), (("value", ("list", ()), (), 1), ("list", ())),
                                (("fail", None, (), 1), "fail"), (("division", None, (), 1), "division"),
                                (("range", None, (), 1), "range"), (("missing", None, (), 1), "missing"),
                                (("nowhere", None, (2,), 1), "nowhere"), (("tired", None, (), 0), "tired")]:
            self.assertEqual(verdict_of(answer), verdict)
            self.assertIs(verdict_of(answer).__class__, verdict.__class__)

    def test_nothing_is_modified(self):
        script = read_script("def f(x) = x + 1; note f(1) then fold x s in spent from 0 do s + coin(x)")
        copy = read_script("def f(x) = x + 1; note f(1) then fold x s in spent from 0 do s + coin(x)")
        facts = Facts(spent=ROWS)
        first = evaluate(script, facts)
        self.assertEqual(evaluate(script, facts), first)
        self.assertEqual(script, copy)
        self.assertEqual(vars(facts), vars(Facts(spent=ROWS)))

    def test_made_up_scripts_end_well(self):
        source = random.Random(6)
        rows = [((1, n), ("script", "x"), Bundle([(COIN, n), (("x", 1), 10 ** 15 + n)]), (n,)) for n in range(3)]
        facts = Facts(begins=3, signers=[1, 2], spent=rows, here=rows[0], own="x", mint=[(("x", 2), 5)], datum=[1])
        seen = {}
        for _ in range(1500):
            script, kind = kinded_script(source, source.randint(1, 6))
            ending, value, notes, steps = evaluate(script, facts)
            seen[ending] = True
            if ending == "value":
                self.check_value(value, kind)
        self.assertEqual(sorted(seen), ["division", "fail", "missing", "range", "value"])

    def check_value(self, value, kind):
        """The value is one of 4.3 and has the kind."""
        if kind == ("int",):
            self.assertIs(value.__class__, int)
            self.assertLessEqual(abs(value), MOST)
        elif kind == ("bool",):
            self.assertIs(value.__class__, bool)
        else:
            self.assertEqual(value[0], kind[0])
            self.assertIsInstance(value, tuple)
            inner = value[1] if kind[0] == "list" else ()
            for item in inner:
                self.check_value(item, kind[1])
            if kind[0] == "pair":
                self.check_value(value[1], kind[1])
                self.check_value(value[2], kind[2])


if __name__ == "__main__":
    unittest.main()
