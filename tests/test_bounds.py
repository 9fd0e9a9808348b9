"""keptcoin/scripts/bounds.py (4.9, 4.10)."""

import random
import unittest

from keptcoin.amounts.bundle import Bundle
from keptcoin.scripts.bounds import step_bound
from keptcoin.scripts.facts import Facts
from keptcoin.scripts.meaning import evaluate
from keptcoin.scripts.reader import read_script
from keptcoin.scripts.terms import FACTS, FUNCTIONS
from tests.helpers import number
from tests.making import kinded_script


class BoundsTest(unittest.TestCase):
    def bounds(self, bound, text, **more):
        self.assertEqual(step_bound(read_script(text), **more), bound, text)

    def test_terms_without_parts(self):
        for text in ("1", "true", "fail", "[]", *FACTS):
            self.bounds(1, text)
        self.bounds(3, "let x = 1 in x")

    def test_sums_of_parts(self):
        for bound, text in [(2, "-1"), (2, "not true"), (3, "(1, 2)"), (4, "[1, 2, 3]"), (9, "[1, 1, 1, 1, 1, 1, 1, 1]"),
                            (3, "note 1 then 2"), (4, "let x = -1 in 2"), (6, "(-1, (1, 2))")]:
            self.bounds(bound, text)
        for sign in "+ - * div mod == < <= and or".split():
            self.bounds(4, f"1 {sign} -2")

    def test_functions(self):
        for name, many in FUNCTIONS.items():
            self.bounds(1 + many, name + "(" + ", ".join(["1"] * many) + ")")
        self.bounds(5, "item([1], -1)")

    def test_if_takes_the_greater_part(self):
        self.bounds(3, "if true then 1 else 2")
        self.bounds(5, "if true then 1 + 1 else 2")
        self.bounds(5, "if true then 1 else 1 + 1")
        self.bounds(5, "if true then 1 + 1 else 1 + 1")
        self.bounds(6, "if not true then 1 + 1 else -1")

    def test_fold_over_lists(self):
        self.bounds(3, "fold x s in [] from 0 do x + s")
        self.bounds(1 + 2 + 1 + 3, "fold x s in [1] from 0 do x + s")
        self.bounds(1 + 4 + 2 + 3 * 3, "fold x s in [1, 2, 3] from -1 do x + s")
        self.bounds(1 + 9 + 1 + 8 * 3, "fold x s in [1, 1, 1, 1, 1, 1, 1, 1] from 0 do x + s")
        for many in (0, 1, 8, 200):
            self.bounds(1 + 3 + 1 + 2 * 3, "fold x s in [1, 2] from 0 do x + s", many=many)

    def test_fold_over_counted_facts(self):
        for word in ("spent", "looked", "made", "signers"):
            text = f"fold x s in {word} from -0 do s + 1"
            self.bounds(1 + 1 + 2 + 8 * 3, text)
            for many in (0, 1, 7, 8, 9, 200):
                self.bounds(1 + 1 + 2 + many * 3, text, many=many)

    def test_fold_over_something_else(self):
        for bound, term in [(1, "datum"), (1, "redeemer"), (2, "tail(spent)"), (2, "tail(signers)"),
                            (3, "if true then spent else made"), (3, "let x = spent in x"), (3, "tail([1])")]:
            for many in (0, 1, 200):
                self.bounds(1 + bound + 1 + 8 * 3, f"fold x s in {term} from 0 do s + 1", many=many)
        for term, bound in [("datum", 1), ("[1, 2]", 3), ("spent", 1)]:
            self.bounds(1 + bound + (1 + 1 + 1 + 8 * 1), f"let l = {term} in fold x s in l from 0 do s", many=3)

    def test_nested_folds(self):
        self.bounds(1 + 1 + 1 + 8 * (1 + 1 + 1 + 8 * 1), "fold a s in spent from 0 do fold b t in made from 0 do t")
        self.bounds(1 + 1 + 1 + 3 * (1 + 1 + 1 + 3 * 1), "fold a s in spent from 0 do fold b t in made from 0 do t",
                    many=3)
        self.bounds(1 + (1 + 3 + 1 + 2 * 1) + 1 + 8 * 2, "fold a s in fold b t in [1, 2] from [] do t from 0 do -s")

    def test_calls_of_definitions(self):
        self.bounds(2, "def f() = 1; f()")
        self.bounds(5, "def f(x) = x + 1; f(2)")
        self.bounds(1 + 3 + 2 + 4, "def f(x, y) = -x + 1; f(1 + 2, -3)")
        self.bounds(1 + 1 + (1 + (1 + 1 + 3) + 3), "def f(x) = x + 1; def g(x) = f(f(x)); g(1)")
        self.bounds(1, "def f(x) = x + 1; 1")
        self.bounds(1 + 1 + 1 + 8 * (1 + 1 + 2), "def f(x) = -x; fold a s in datum from 0 do f(a)")
        self.bounds(4, "def f() = fold a s in spent from 0 do 1; f()", many=0)
        self.bounds(6, "def f() = fold a s in spent from 0 do 1; f()", many=2)

    def test_many(self):
        text = "fold a s in spent from 0 do fold b t in signers from s do t + 1"
        script = read_script(text)
        self.assertEqual(step_bound(script), step_bound(script, 8))
        self.assertEqual(step_bound(script, 0), 3)
        self.assertEqual(step_bound(script, 200), 3 + 200 * (3 + 200 * 3))

    def test_great_bounds(self):
        term = number(1)
        for _ in range(15):
            term = ("fold", "a", "s", ("fact", "spent"), number(0), term)
        expected = 1
        for _ in range(15):
            expected = 3 + 200 * expected
        self.assertEqual(step_bound(((), term), 200), expected)

    def test_bound_as_the_budget(self):
        source = random.Random(7)
        rows = [((1, n), ("key", n), Bundle.of_coin(n), (n,)) for n in range(8)]
        reached = 0
        for _ in range(1500):
            script, _ = kinded_script(source, source.randint(1, 6))
            many = source.randint(0, 8)
            facts = Facts(signers=[1] * source.randint(0, many), spent=rows[:many], made=rows[:source.randint(0, many)],
                          here=rows[0], datum=list(range(8)), redeemer=[1] * 8)
            bound = step_bound(script, facts.many)
            outcome = evaluate(script, facts, budget=min(bound, 10 ** 6))
            if bound <= 10 ** 6:
                self.assertNotEqual(outcome[0], "tired")
                self.assertEqual(evaluate(script, facts, budget=10 ** 6), outcome)
            self.assertLessEqual(outcome[3], bound)
            self.assertLessEqual(outcome[3], step_bound(script, many))
            reached += outcome[3] == bound
        self.assertGreater(reached, 100)

    def test_bounds_that_are_reached(self):
        for text in ("1 + 2", "if true then 1 + 1 else 2", "fold x s in [1, 2] from 0 do x + s",
                     "fold x s in spent from 0 do s + coin(x)", "fold x s in datum from 0 do x + s",
                     "def f(x) = x + 1; f(f(1))"):
            rows = [((1, n), ("key", n), Bundle.of_coin(n), (n,)) for n in range(8)]
            script = read_script(text)
            for many in (0, 3, 8):
                facts = Facts(spent=rows[:many], datum=list(range(8)))
                outcome = evaluate(script, facts, budget=step_bound(script, many))
                self.assertEqual((outcome[0], outcome[3]), ("value", step_bound(script, many)), text)


if __name__ == "__main__":
    unittest.main()
