"""keptcoin/scripts/machine.py (6.5 to 6.7)."""

import random
import unittest

from keptcoin.amounts.bundle import Bundle
from keptcoin.errors import BadCode
from keptcoin.scripts import machine, meaning
from keptcoin.scripts.checker import check_program
from keptcoin.scripts.emitting import emit_script
from keptcoin.scripts.facts import Facts
from keptcoin.scripts.machine import run_program
from keptcoin.scripts.meaning import evaluate
from keptcoin.scripts.printing import print_script
from keptcoin.scripts.reader import read_script
from keptcoin.scripts.simplify import simplify_script
from keptcoin.scripts.terms import FACTS, FUNCTIONS
from tests.making import any_facts, complicated, kinded_script

MOST = 10 ** 15
TICK, RETURN, OPEN, BIND = ("tick", 1), ("return",), ("open",), ("bind",)
ROWS = [((1, n), ("key", n), Bundle.of_coin(10 * n), (n, n + 1)) for n in range(8)]
KNOWN = Facts(begins=3, ends=9, signers=[4, 6], spent=ROWS[:3], made=ROWS[3:4], here=ROWS[5], datum=[7, 8, 9], own="x",
              redeemer=[2], mint=[(("x", 1), 5), (("x", 2), MOST + 1)])
# Instructions that put a value of each kind on the stack.
INT, BOOL, OUTPUT = [("number", 2)], [("truth", True)], [("fact", "here")]
INTS, OUTPUTS, EMPTY, PAIR = [("fact", "datum")], [("fact", "spent")], [("list", 0)], [*INT, *BOOL, ("pair",)]
SORTS = {"int": INT, "bool": BOOL, "output": OUTPUT, "ints": INTS, "outputs": OUTPUTS, "empty": EMPTY, "pair": PAIR}
LISTS = ("ints", "outputs", "empty")
EIGHT = ("value", "fail", "division", "range", "missing", "nowhere", "tired", "stuck")


def routine(*instructions, parameters=0):
    return (parameters, (TICK, *instructions, RETURN))


def run(*instructions, facts=KNOWN, budget=5000, before=()):
    """The outcome of a program, which the checker accepts."""
    program = (*before, routine(*instructions))
    check_program(program)
    return run_program(program, facts, budget=budget)


class MachineTest(unittest.TestCase):
    def gives(self, value, *instructions, **more):
        ending, found, _, _ = run(*instructions, **more)
        self.assertEqual((ending, found), ("value", value), instructions)
        self.assertIs(found.__class__, value.__class__)

    def ends(self, ending, *instructions, **more):
        self.assertEqual(run(*instructions, **more)[:2], (ending, None), instructions)

    def test_outcome(self):
        answer = run(("number", 5))
        self.assertEqual(answer, ("value", 5, (), 1))
        self.assertIsInstance(answer, tuple)
        self.assertIsInstance(answer[2], tuple)

    def test_budget_that_holds_if_none_is_passed(self):
        self.assertEqual(machine.BUDGET, meaning.BUDGET)
        for many, ending in [(4999, "value"), (5000, "tired")]:
            program = ((0, (("tick", 1), ("tick", many), ("number", 1), RETURN)),)
            self.assertEqual(run_program(program, KNOWN)[0::3], (ending, 5000))

    def test_ticks(self):
        code = [("tick", 3), ("number", 1), ("note",), ("tick", 4), ("number", 2)]
        for budget in range(12):
            steps = 1 + 3 + 4
            if budget >= steps:
                expected = ("value", 2, (1,), steps)
            else:
                expected = ("tired", None, (1,) if budget >= 4 else (), budget)
            self.assertEqual(run(*code, budget=budget), expected)

    def test_budget_of_nothing(self):
        self.assertEqual(run(("number", 1), budget=0), ("tired", None, (), 0))
        self.assertEqual(run(("fail",), budget=0), ("tired", None, (), 0))
        self.assertEqual(run(("fail",), budget=1), ("fail", None, (), 1))

    def test_great_ticks(self):
        code = [("tick", 10 ** 6), ("number", 1)]
        self.assertEqual(run(*code, budget=10 ** 6), ("tired", None, (), 10 ** 6))
        self.assertEqual(run_program(((0, (("tick", 10 ** 6), ("number", 1), RETURN)),), KNOWN, budget=10 ** 6),
                         ("value", 1, (), 10 ** 6))

    def test_constants_and_facts(self):
        self.gives(0, ("number", 0))
        self.gives(MOST, ("number", MOST))
        self.gives(True, ("truth", True))
        self.gives(False, ("truth", False))
        self.ends("fail", ("fail",))
        for word in FACTS:
            self.assertEqual(run(("fact", word)), evaluate(((), ("fact", word)), KNOWN))
        self.ends("nowhere", ("fact", "here"), facts=Facts())
        self.gives(False, ("fact", "guarding"), facts=Facts())

    def test_bindings(self):
        self.gives(1, ("number", 1), BIND, ("load", 0))
        two = [("number", 1), BIND, ("number", 2), BIND]
        self.gives(2, *two, ("load", 0))
        self.gives(1, *two, ("load", 1))
        self.gives(1, *two, ("drop", 1), ("load", 0))
        three = [*two, ("number", 3), BIND]
        self.gives(1, *three, ("drop", 2), ("load", 0))
        self.gives(3, *three, ("load", 0))
        self.gives(5, *three, ("drop", 3), ("number", 5))

    def test_minus_not_note(self):
        self.gives(-2, *INT, ("minus",))
        self.gives(MOST, ("number", MOST), ("minus",), ("minus",))
        self.gives(False, *BOOL, ("not",))
        self.gives(True, ("truth", False), ("not",))
        self.assertEqual(run(("number", 1), ("note",), ("number", 2), ("minus",), ("note",), ("number", 3)),
                         ("value", 3, (1, -2), 1))

    def test_compute(self):
        for sign, value in [("+", 9), ("-", 5), ("*", 14), ("div", 3), ("mod", 1), ("==", False), ("<", False),
                            ("<=", False)]:
            self.gives(value, ("number", 7), ("number", 2), ("compute", sign))
        self.gives(-4, ("number", 7), ("minus",), ("number", 2), ("compute", "div"))
        self.ends("division", ("number", 7), ("number", 0), ("compute", "div"))
        self.ends("division", ("number", 0), ("number", 0), ("compute", "mod"))
        self.ends("range", ("number", MOST), ("number", 1), ("compute", "+"))
        self.gives(MOST, ("number", MOST - 1), ("number", 1), ("compute", "+"))
        self.gives(True, ("number", MOST), ("number", MOST), ("compute", "=="))

    def test_pair_and_list(self):
        self.gives(("pair", 2, True), *INT, *BOOL, ("pair",))
        self.gives(("list", ()), ("list", 0))
        self.gives(("list", (1, 2, 3)), ("number", 1), ("number", 2), ("number", 3), ("list", 3))
        self.gives(("pair", 1, ("list", (2,))), ("number", 1), ("number", 2), ("list", 1), ("pair",))
        for sort in SORTS.values():
            self.assertEqual(run(*sort, *sort, ("pair",))[1], ("pair", run(*sort)[1], run(*sort)[1]))

    def test_apply(self):
        self.gives(2, *PAIR, ("apply", "first"))
        self.gives(True, *PAIR, ("apply", "second"))
        self.gives(3, *INTS, ("apply", "count"))
        self.gives(7, *INTS, ("apply", "head"))
        self.gives(("list", (8, 9)), *INTS, ("apply", "tail"))
        self.gives(8, *INTS, ("number", 1), ("apply", "item"))
        self.ends("missing", *INTS, ("number", 3), ("apply", "item"))
        self.ends("missing", *EMPTY, ("apply", "head"))
        self.ends("missing", *EMPTY, ("apply", "tail"))
        self.gives(50, *OUTPUT, ("apply", "coin"))
        self.gives(0, *OUTPUT, ("number", 1), ("apply", "held"))
        self.gives(("list", (5, 6)), *OUTPUT, ("apply", "data"))
        self.gives(True, *OUTPUT, ("number", 5), ("apply", "keyed"))
        self.gives(False, *OUTPUT, ("apply", "homed"))
        self.gives(5, ("number", 1), ("apply", "minted"))
        self.ends("range", ("number", 2), ("apply", "minted"))
        self.gives(True, ("number", 4), ("apply", "signed"))
        self.gives(True, ("number", 1), ("number", 2), ("apply", "spends"))
        self.gives(False, ("number", 2), ("number", 1), ("apply", "spends"))

    def test_jumps(self):
        choice = [("unless", 5), ("number", 1), ("jump", 6), ("number", 2)]
        self.gives(1, ("truth", True), *choice)
        self.gives(2, ("truth", False), *choice)
        for a in (True, False):
            for b in (True, False):
                self.gives(a and b, ("truth", a), ("and", 4), ("truth", b))
                self.gives(a or b, ("truth", a), ("or", 4), ("truth", b))
        self.gives(False, ("truth", False), ("and", 4), ("fail",))
        self.gives(True, ("truth", True), ("or", 4), ("fail",))
        self.ends("fail", ("truth", True), ("and", 4), ("fail",))
        self.ends("fail", ("truth", False), ("or", 4), ("fail",))
        # The second value may be of any kind.
        self.gives(7, ("truth", True), ("and", 4), ("number", 7))

    def loop(self, items, start, *inner):
        """A loop, for items and a start that are one instruction each; its each stands at place 4."""
        return [items, start, OPEN, ("each", 7 + len(inner)), TICK, *inner, ("again", 4)]

    def test_loops(self):
        summed = [("load", 0), ("load", 1), ("compute", "+")]
        self.gives(25, *self.loop(("fact", "datum"), ("number", 1), *summed))
        self.gives(1, *self.loop(("list", 0), ("number", 1), *summed))
        digits = [("load", 0), ("number", 10), ("compute", "*"), ("load", 1), ("compute", "+")]
        self.gives(1789, *self.loop(("fact", "datum"), ("number", 1), *digits))
        self.assertEqual(run(*self.loop(("fact", "datum"), ("number", 1), ("load", 1), ("note",), ("load", 0))),
                         ("value", 1, (7, 8, 9), 4))
        self.gives(9, *self.loop(("fact", "datum"), ("number", 1), ("load", 1)))
        self.ends("fail", *self.loop(("fact", "datum"), ("number", 1), ("fail",)))
        self.gives(1, *self.loop(("list", 0), ("number", 1), ("fail",)))

    def test_nested_loops(self):
        inner = [("fact", "datum"), ("load", 0), OPEN, ("each", 15), TICK, ("load", 0), ("number", 1), ("compute", "+"),
                 ("again", 9)]
        self.assertEqual(run(*self.loop(("fact", "datum"), ("number", 0), *inner)), ("value", 9, (), 13))

    def test_bindings_behind_a_loop(self):
        self.gives(5, ("number", 5), BIND, ("fact", "datum"), ("number", 1), OPEN, ("each", 10), TICK, ("load", 2),
                   ("again", 6))
        self.gives(5, ("number", 5), BIND, ("fact", "datum"), ("number", 1), OPEN, ("each", 10), TICK, ("load", 0),
                   ("again", 6), BIND, ("load", 1))

    def test_loops_within_calls(self):
        summing = (1, (TICK, ("load", 0), ("number", 0), OPEN, ("each", 10), TICK, ("load", 0), ("load", 1),
                       ("compute", "+"), ("again", 4), RETURN))
        self.gives(24, ("fact", "datum"), ("call", 0), before=[summing])
        # The loop of the caller goes on behind the call, with its own bindings.
        self.assertEqual(run(*self.loop(("fact", "datum"), ("number", 0), ("fact", "redeemer"), ("call", 0), ("load", 0),
                                        ("compute", "+"), ("load", 1), ("note",)), before=[summing]),
                         ("value", 6, (7, 8, 9), 1 + 3 * (1 + 1 + 1)))

    def test_calls(self):
        self.gives(5, ("call", 0), before=[routine(("number", 5))])
        less = routine(("load", 1), ("load", 0), ("compute", "-"), parameters=2)
        self.gives(7, ("number", 9), ("number", 2), ("call", 0), before=[less])
        self.gives(("pair", 1, 7), ("number", 1), ("number", 9), ("number", 2), ("call", 0), ("pair",), before=[less])
        twice = routine(("load", 0), ("load", 0), ("compute", "+"), parameters=1)
        four = routine(("load", 0), ("call", 0), ("call", 0), parameters=1)
        self.assertEqual(run(("number", 3), ("call", 1), ("number", 1), BIND, before=[twice, four]),
                         ("value", 12, (), 4))
        self.ends("fail", ("call", 0), before=[routine(("fail",))])
        self.gives(("list", (1, 2, 3, 4)), *[("number", n) for n in (1, 2, 3, 4)], ("call", 0),
                   before=[routine(*[("load", n) for n in (3, 2, 1, 0)], ("list", 4), parameters=4)])
        # A routine drops what it was called with, and its caller keeps its own bindings.
        self.gives(8, ("number", 8), BIND, ("number", 3), ("call", 0), BIND, ("drop", 1), ("load", 0),
                   before=[routine(("load", 0), ("drop", 1), parameters=1)])

    def test_value_is_the_top_of_the_last_routine(self):
        self.assertEqual(run(*OUTPUT)[1], ("output", ROWS[5]))
        self.gives(3, ("call", 1), before=[routine(("number", 2)), routine(("number", 3))])


class StuckTest(unittest.TestCase):
    def check(self, sort, fits, *instructions):
        """The instructions take the value of this sort and leave one value."""
        outcome = run(*SORTS[sort], *instructions)
        if fits:
            self.assertNotEqual(outcome[0], "stuck", (sort, instructions))
        else:
            self.assertEqual(outcome, ("stuck", None, (), 1), (sort, instructions))

    def test_minus_note_not(self):
        for sort in SORTS:
            self.check(sort, sort == "int", ("minus",))
            self.check(sort, sort == "int", ("note",), ("number", 1))
            self.check(sort, sort == "bool", ("not",))

    def test_jumps(self):
        for sort in SORTS:
            at = 1 + len(SORTS[sort])
            self.check(sort, sort == "bool", ("unless", at + 3), ("number", 1), ("jump", at + 4), ("number", 2))
            self.check(sort, sort == "bool", ("and", at + 2), ("number", 1))
            self.check(sort, sort == "bool", ("or", at + 2), ("number", 1))

    def test_compute(self):
        for sign in "+ - * div mod == < <=".split():
            for sort in SORTS:
                self.check(sort, sort == "int", ("number", 1), ("compute", sign))
                outcome = run(("number", 1), *SORTS[sort], ("compute", sign))
                self.assertEqual(outcome[0] == "stuck", sort != "int", (sort, sign))

    def test_lists(self):
        for sort in SORTS:
            for before in range(8):
                for behind in {0, 7 - before}:
                    outcome = run(*[("number", 1)] * before, *SORTS[sort], *[("number", 1)] * behind,
                                  ("list", before + 1 + behind))
                    self.assertEqual(outcome[0] == "stuck", sort != "int")

    def test_values_of_all_kinds_where_any_will_do(self):
        for sort in SORTS:
            self.check(sort, True, BIND, ("load", 0))
            self.check(sort, True, ("number", 1), ("pair",))
            self.check(sort, True)
            self.assertEqual(run(*SORTS[sort], ("call", 0), before=[routine(("load", 0), parameters=1)]),
                             ("value", run(*SORTS[sort])[1], (), 2))

    def test_open(self):
        for sort in SORTS:
            at = 3 + len(SORTS[sort])
            loop = [OPEN, ("each", at + 4), TICK, ("load", 0), ("again", at)]
            self.check(sort, sort in LISTS, ("number", 1), *loop)
            # What is on top may be anything.
            self.assertEqual(run(("fact", "datum"), *SORTS[sort], *loop)[:2], ("value", run(*SORTS[sort])[1]))

    def test_apply(self):
        kinds = {"first": ["pair"], "second": ["pair"], "count": [LISTS], "head": [LISTS], "tail": [LISTS],
                 "item": [LISTS, "int"], "coin": ["output"], "held": ["output", "int"], "data": ["output"],
                 "keyed": ["output", "int"], "homed": ["output"], "minted": ["int"], "signed": ["int"],
                 "spends": ["int", "int"]}
        self.assertEqual(list(kinds), list(FUNCTIONS))
        for name, wanted in kinds.items():
            for sorts in [(a, b) for a in SORTS for b in SORTS]:
                sorts = sorts[:len(wanted)]
                fits = all([sort == kind or sort in kind and kind is LISTS for sort, kind in zip(sorts, wanted)])
                code = [instruction for sort in sorts for instruction in SORTS[sort]]
                ending = run(*code, ("apply", name))[0]
                self.assertEqual(ending == "stuck", not fits, (name, sorts))

    def test_stuck_comes_before_other_errors(self):
        self.assertEqual(run(*BOOL, ("number", 0), ("compute", "div"))[0], "stuck")
        self.assertEqual(run(*EMPTY, *BOOL, ("apply", "item"))[0], "stuck")
        self.assertEqual(run(*EMPTY, ("number", 0), ("apply", "item"))[0], "missing")

    def test_notes_and_steps_of_a_stuck_run(self):
        self.assertEqual(run(("number", 4), ("note",), ("tick", 6), *BOOL, ("minus",)), ("stuck", None, (4,), 7))


class EndingsTest(unittest.TestCase):
    def test_each_ending(self):
        for ending, code in [("value", [("number", 1)]), ("fail", [("fail",)]),
                             ("division", [("number", 1), ("number", 0), ("compute", "mod")]),
                             ("range", [("number", MOST), ("number", 2), ("compute", "*")]),
                             ("missing", [("list", 0), ("apply", "head")]), ("nowhere", [("fact", "here")]),
                             ("tired", [("tick", 90), ("number", 1)]), ("stuck", [("truth", True), ("minus",)])]:
            value = 1 if ending == "value" else None
            steps = 20 if ending == "tired" else 4
            found = run(("number", 6), ("note",), ("number", 7), ("note",), ("tick", 3), *code, facts=Facts(), budget=20)
            self.assertEqual(found, (ending, value, (6, 7), steps))


class SameOutcomeTest(unittest.TestCase):
    """6.7, and what 6.6 says of all programs."""

    def compare(self, script, facts, budget):
        before = evaluate(script, facts, budget=budget)
        program = emit_script(script)
        check_program(program)
        found = run_program(program, facts, budget=budget)
        self.assertEqual(found, before, print_script(script))
        self.assertIs(found[1].__class__, before[1].__class__)
        return before

    def test_every_budget(self):
        for text in ("1", "fold x s in datum from 0 do note x then x + s", "note 1 then 1 + 1 div 0",
                     "def f(x) = if x then fail else note 4 then 2; (note 1 then 1, f(false))", "note 1 then fail",
                     "let x = true and not false in if x or fail then [1, 2] else []",
                     "fold o s in spent from (0, true) do (first(s) + coin(o), second(s) and keyed(o, 1))"):
            script = read_script(text)
            whole = self.compare(script, KNOWN, 5000)
            for budget in range(whole[3] + 2):
                outcome = self.compare(script, KNOWN, budget)
                self.assertEqual(outcome[0] == "tired", budget < whole[3])

    def test_made_up_scripts(self):
        source = random.Random(15)
        endings = {}
        for _ in range(800):
            script, _ = kinded_script(source, source.randint(1, 5))
            if source.random() < 0.5:
                script = complicated(source, script)
            facts = any_facts(source)
            whole = self.compare(script, facts, 20000)
            endings[whole[0]] = True
            for budget in {0, 1, whole[3] // 2, max(0, whole[3] - 1), whole[3], whole[3] + 1}:
                self.compare(script, facts, budget)
            simple = simplify_script(script)
            for budget in (20000, whole[3], whole[3] // 2):
                self.compare(simple, facts, budget)
        self.assertEqual(sorted(endings), ["division", "fail", "missing", "nowhere", "range", "value"])

    def test_mutilated_programs_that_the_checker_accepts(self):
        source = random.Random(16)
        accepted, endings = 0, {}
        for _ in range(6000):
            script, _ = kinded_script(source, source.randint(1, 4))
            program = [[many, list(code)] for many, code in emit_script(script)]
            code = source.choice(program)[1]
            for _ in range(source.randint(1, 2)):
                at = source.randrange(1, len(code))
                code[at:at + source.choice([0, 1])] = [self.other(source, len(code))]
            program = tuple([(many, tuple(code)) for many, code in program])
            try:
                check_program(program)
            except BadCode as error:
                index, place = error.what
                self.assertTrue(0 <= place < len(program[index][1]))
                continue
            accepted += 1
            ending, value, notes, steps = run_program(program, any_facts(source), budget=300)
            endings[ending] = True
            self.assertLessEqual(steps, 300)
            self.assertTrue(ending == "value" or value is None)
            self.assertEqual([note.__class__ for note in notes], [int] * len(notes))
        self.assertGreater(accepted, 600)
        self.assertLessEqual({"fail", "missing", "nowhere", "range", "stuck", "tired", "value"}, set(endings))
        self.assertLessEqual(set(endings), set(EIGHT))

    def other(self, source, length):
        """An instruction, often one that leaves the stack as it is."""
        return source.choice([
            ("tick", source.randint(1, 400)), ("number", source.choice([0, 1, MOST])), ("truth", source.random() < 0.5),
            ("fact", source.choice(FACTS)), ("fail",), ("load", source.randint(0, 3)), ("minus",), ("not",), ("note",),
            ("compute", source.choice("+ - * div mod == < <=".split())), ("pair",), ("list", source.randint(0, 3)),
            ("apply", source.choice(list(FUNCTIONS))), ("call", 0), BIND, ("drop", 1), ("minus",), ("not",),
            ("jump", source.randint(1, length)), ("unless", source.randint(1, length)),
            ("and", source.randint(1, length)), ("or", source.randint(1, length)), ("list", 1), ("fact", "here"),
        ])

    def test_nothing_is_modified(self):
        text = "def f(x) = x + 1; note f(1) then fold x s in spent from [1] do [head(s) + coin(x)]"
        program, copy = emit_script(read_script(text)), emit_script(read_script(text))
        facts = Facts(spent=ROWS)
        first = run_program(program, facts)
        self.assertEqual(run_program(program, facts), first)
        self.assertEqual(program, copy)
        self.assertEqual(vars(facts), vars(Facts(spent=ROWS)))

    def test_large_budget(self):
        script = read_script("fold a s in datum from 0 do " * 6 + "s + 1")
        facts = Facts(datum=range(8))
        self.compare(script, facts, 10 ** 6)
        self.compare(script, facts, 10 ** 5)

    def test_values_that_are_nested_very_deep(self):
        # No script that has a kind makes such a value, but the machine does not look into it.
        loop = []
        for depth in range(4):
            loop += [("fact", "datum"), ("number", 0) if depth == 0 else ("load", 0), OPEN, ("each", 0), TICK]
        loop += [("load", 0), ("number", 1), ("pair",), *[("again", 4 + 5 * depth) for depth in range(4)[::-1]]]
        code = [TICK, *loop, RETURN]
        for at, instruction in enumerate(code):
            if instruction[0] == "again":
                code[instruction[1]] = ("each", at + 1)
        program = ((0, tuple(code)),)
        check_program(program)
        ending, value, _, _ = run_program(program, Facts(datum=range(8)), budget=10 ** 5)
        levels = 0
        while value.__class__ is tuple:
            value, levels = value[1], levels + 1
        self.assertEqual((ending, levels), ("value", 8 ** 4))


if __name__ == "__main__":
    unittest.main()
