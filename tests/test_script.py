"""keptcoin/scripts/script.py (6.8, and 2.5, 3.5, 4.8 and 4.10 for scripts that are made of texts)."""

import random
import unittest

from keptcoin.amounts.bundle import Bundle
from keptcoin.errors import BadSyntax, BadToken, BadUse, DeepTerm, NoKind, OverLimit
from keptcoin.scripts.bounds import step_bound
from keptcoin.scripts.checker import check_program
from keptcoin.scripts.emitting import emit_script
from keptcoin.scripts.facts import Facts
from keptcoin.scripts.machine import run_program
from keptcoin.scripts.meaning import evaluate
from keptcoin.scripts.printing import print_script
from keptcoin.scripts.reader import read_script
from keptcoin.scripts.script import Script, is_validator_text
from keptcoin.scripts.simplify import simplify_script
from tests.helpers import Checks
from tests.making import any_facts, kinded_script

ROWS = [((1, n), ("key", n), Bundle.of_coin(10 * n), (n,)) for n in range(8)]

# Texts that are refused, with the error and its item.
REFUSED = [
    ("", BadSyntax, 0), ("1 +", BadSyntax, 3), ("1 2", BadSyntax, 2), ("def f() = 1", BadSyntax, 11), (")", BadSyntax, 0),
    ("true & false", BadToken, 5), ("01 == 1", BadToken, 0), ("1000000000000001 == 1", BadToken, 0),
    ("abcdefghijklm", BadToken, 0), ("true #", BadToken, 5), ("True", BadToken, 0), ("true\n", BadToken, 4),
    ("1" + " + 1" * 100, OverLimit, 400), ("(" * 17 + "1" + ")" * 17, OverLimit, 16), ("[1, 2, 3, 4, 5, 6, 7, 8, 9]", OverLimit, 23),
    ("def f(a, b, c, d, e) = 1; 1", OverLimit, 16), ("x", BadUse, "x"), ("f(1)", BadUse, "f"), ("count()", BadUse, "count"),
    ("def f(x, x) = 1; 1", BadUse, "x"), ("fold x x in [] from 1 do 1", BadUse, "x"),
    ("1" + " + 1" * 16, DeepTerm, 17), ("1 + true", NoKind, 0), ("def f() = not 1; true", NoKind, 0),
    ("def f(x) = x; f(1) and true", NoKind, 1), ("def f() = 1; def g() = -true; true", NoKind, 1),
    ("if 1 then true else false", NoKind, 0), ("[true]", NoKind, 0), ("first(here)", NoKind, 0),
]


class ScriptTest(Checks, unittest.TestCase):
    def test_attributes(self):
        for text in ("1", "def f(x) = x + 1; f(2) == 3", " true  and ( false)", "def f() = 1; def g() = 2; begins < g()"):
            script = Script(text)
            self.assertEqual(script.text, text)
            self.assertEqual(script.source, read_script(text))
            self.assertEqual(script.code, emit_script(simplify_script(read_script(text))))
            check_program(script.code)

    def test_code_is_that_of_the_simplified_script(self):
        self.assertEqual(Script("def f() = 1; 1 + 2 == 3").code, ((0, (("tick", 1), ("truth", True), ("return",))),))
        self.assertEqual(Script("1 < begins").code,
                         ((0, (("tick", 2), ("number", 1), ("tick", 1), ("fact", "begins"), ("compute", "<"), ("return",))),))

    def test_refused_texts(self):
        for text, error, what in REFUSED:
            self.fails(error, what, Script, text)
            self.assertIs(is_validator_text(text), False, text)

    def test_kinds(self):
        for text, kind in [("true", ("bool",)), ("1", ("int",)), ("here", ("output",)), ("[]", ("list", ("any", 0))),
                           ("fail", ("any", 0)), ("spent", ("list", ("output",))),
                           ("(1, true)", ("pair", ("int",), ("bool",))), ("def f(x) = x; f(true)", ("bool",)),
                           ("signed(1) or homed(here)", ("bool",)), ("head([fail, 1])", ("int",))]:
            script = Script(text)
            self.assertEqual(script.kind, kind)
            self.assertIs(script.is_validator, kind == ("bool",))
            self.assertIs(is_validator_text(text), kind == ("bool",))

    def test_kinds_of_the_functions(self):
        for kind, texts in [
            (("int",), ["first((1, true))", "count(spent)", "count([])", "head(datum)", "item(signers, 1)", "coin(here)",
                        "held(here, 1)", "minted(1)"]),
            (("bool",), ["second((1, true))", "keyed(here, 1)", "homed(here)", "signed(1)", "spends(1, 2)"]),
            (("output",), ["head(spent)", "item(made, 0)", "first((here, 1))"]),
            (("list", ("int",)), ["tail(redeemer)", "data(here)", "second((1, datum))"]),
            (("list", ("output",)), ["tail(looked)"]), (("list", ("any", 0)), ["tail([])"]), (("any", 0), ["head([])"]),
        ]:
            for text in texts:
                self.assertEqual(Script(text).kind, kind, text)
        for text in ["first(1)", "count(1)", "head(here)", "item(datum, true)", "coin(spent)", "held(1, here)",
                                      "data(datum)", "keyed(1, 1)", "minted(true)", "signed(here)", "spends(1, true)"]:
            self.fails(NoKind, 0, Script, text)

    def test_grammar(self):
        for value, text in [
            (7, "1+2*3"), (9, "(1 + 2) * 3"), (5, "10 - 3 - 2"), (1, "7 div 2 mod 2"), (6, "-2 * -3"), (-6, "-(2 * 3)"),
            (True, "1 + 1 == 2 and not false or fail"), (False, "not true and fail"), (True, "1 < 2 and 2 <= 2"),
            (3, "if 1 < 2 then let x = 1 in x + 2 else 4"), (6, "fold x s in [1, 2, 3] from 0 do s + x"),
            (2, "note 1 then 2"), (("pair", 1, ("list", (2, 3))), "(1, [2, 3])"), (4, "def f(x, y) = x - y; f(7, 3)"),
            (12, "def twice(x) = x * 2; def f() = twice(3); twice(f())"), (1, "first((1, 2))"),
        ]:
            self.both(value, Script(text), Facts())

    def test_kind_of_the_body_that_was_read(self):
        # Simplified, the body is fail, which may have any kind.
        script = Script("if true then fail else 1 < 2")
        self.assertEqual(script.kind, ("bool",))
        self.assertTrue(script.is_validator)

    def test_bound(self):
        for text in ("1 + 2", "fold x s in spent from true do s and 1 < 2", "def f(x) = x; f(f(2)) == 2"):
            script = Script(text)
            self.assertEqual(script.bound(), step_bound(read_script(text), 8))
            for many in (0, 1, 7, 200):
                self.assertEqual(script.bound(many), step_bound(read_script(text), many))
                self.assertEqual(script.bound(many=many), step_bound(read_script(text), many))
        self.assertEqual(Script("1 + 2").bound(), 3)

    def both(self, verdict, script, facts):
        for found in (script.verdict(facts), script.plain_verdict(facts)):
            self.assertEqual(found, verdict)
            self.assertIs(found.__class__, verdict.__class__)

    def test_verdicts(self):
        for verdict, text in [(True, "begins < 5"), (False, "begins < 3"), ("fail", "begins < 3 or fail"),
                              ("division", "begins div 0 < 1"), ("range", "begins + 1000000000000000 < 1"),
                              ("missing", "head(datum) < 1"), ("nowhere", "keyed(here, 1)"), (4, "1 + begins"),
                              (("list", ()), "datum"), (("pair", 1, True), "(1, not false)")]:
            self.both(verdict, Script(text), Facts(begins=3))

    def test_bound_for_the_facts_is_the_budget(self):
        script = Script("fold x s in spent from 0 do s + coin(x)")
        for many in range(9):
            self.both(10 * sum(range(many)), script, Facts(spent=ROWS[:many]))
            self.both(10 * sum(range(many)), script, Facts(spent=ROWS[:many], looked=ROWS))
        # The other facts have more items than those that are counted.
        script = Script("fold x s in datum from 0 do s + x")
        self.both(8, script, Facts(datum=[1] * 8))
        script = Script("fold x s in signers from 0 do fold y t in made from s do t + 1")
        self.both(16, script, Facts(signers=[1, 1, 1, 1], made=ROWS[:4]))

    def test_asked_again(self):
        script = Script("def f(x) = x < begins; f(3) and signed(7)")
        facts, others = Facts(begins=4, signers=[7]), Facts(begins=3, signers=[7])
        for _ in range(3):
            self.both(True, script, facts)
            self.both(False, script, others)
            self.both(False, script, Facts(begins=9))
        self.assertEqual(vars(facts), vars(Facts(begins=4, signers=[7])))

    def test_no_more_steps_than_the_bound(self):
        source = random.Random(19)
        for text in ("fold x s in spent from 0 do if coin(x) < 20 then s + 1 else fold y t in made from s do t + coin(y)",
                     "def f(x) = fold y t in signers from x do t + y; fold x s in looked from 0 do s + f(coin(x))",
                     "fold x s in datum from true do s and (x < 3 or signed(x))"):
            script = Script(text)
            for _ in range(60):
                facts = any_facts(source)
                steps = evaluate(script.source, facts, budget=10 ** 6)[3]
                self.assertLessEqual(steps, script.bound(facts.many))
                self.assertLessEqual(run_program(script.code, facts, budget=10 ** 6)[3], steps)

    def test_scripts_beside_each_other(self):
        one, other = Script("signed(1)"), Script("signed(2)")
        self.both(True, one, Facts(signers=[1]))
        self.both(False, other, Facts(signers=[1]))
        self.assertEqual((one.text, other.text), ("signed(1)", "signed(2)"))

    def test_made_up_scripts(self):
        source = random.Random(17)
        made, verdicts = 0, {}
        while made < 400:
            text = print_script(kinded_script(source, source.randint(1, 4))[0])
            try:
                script = Script(text)
            except (BadSyntax, OverLimit, DeepTerm, BadToken):
                continue
            made += 1
            self.assertIs(is_validator_text(text), script.kind == ("bool",))
            for _ in range(3):
                facts = any_facts(source)
                if script.bound(facts.many) > 10 ** 6:
                    continue
                verdict = script.verdict(facts)
                self.assertEqual(verdict, script.plain_verdict(facts), text)
                if script.is_validator:
                    verdicts[verdict] = True
        self.assertLessEqual({False, True, "fail", "missing", "nowhere", "range"}, set(verdicts))
        self.assertFalse({"tired", "stuck"} & set(verdicts))

    def test_is_validator_text_raises_nothing(self):
        source = random.Random(18)
        pieces = "def f ( x ) = 1 ; let in if then else true false and or not < == fold from do [ ] , + 0 12ab # here".split()
        for _ in range(2000):
            text = " ".join([source.choice(pieces) for _ in range(source.randint(0, 8))])
            self.assertIn(is_validator_text(text), (True, False))
        self.assertIs(is_validator_text("x" * 4000), False)
        self.assertIs(is_validator_text(" " * 3996 + "true"), True)


if __name__ == "__main__":
    unittest.main()
