"""keptcoin/scripts/emitting.py (6.1, 6.2)."""

import random
import unittest

from keptcoin.scripts.emitting import emit_script, emit_term
from keptcoin.scripts.reader import read_script
from keptcoin.scripts.terms import FACTS, FUNCTIONS, size, terms_of
from tests.helpers import FAIL, FALSE, TRUE, call, fact, listed, number, read_term, variable
from tests.making import any_script


def tick(many=1):
    return ("tick", many)


class TermTest(unittest.TestCase):
    def code(self, text, expected, names="a b x y", **routines):
        term = read_term(text, definitions="def f() = 0; def g(x) = 0; def h(x, y) = 0; ")
        names = names.split()
        copy = list(names)
        found = emit_term(term, names, routines)
        self.assertEqual(found, expected, text)
        self.assertIsInstance(found, list)
        self.assertEqual(names, copy)

    def test_of_the_interface(self):
        self.assertEqual(emit_term(("binary", "and", variable("x"), FALSE), ["x", "y"], {}),
                         [("tick", 2), ("load", 1), ("and", 5), ("tick", 1), ("truth", False)])

    def test_terms_without_parts(self):
        for term in (number(0), number(10 ** 15), TRUE, FALSE, FAIL):
            self.assertEqual(emit_term(term, [], {}), [tick(), term])
        for word in FACTS:
            self.assertEqual(emit_term(fact(word), [], {}), [tick(), ("fact", word)])
        self.code("[]", [tick(), ("list", 0)])

    def test_variables(self):
        for name, index in [("y", 0), ("x", 1), ("b", 2), ("a", 3)]:
            self.code(name, [tick(), ("load", index)])
        self.code("x", [tick(), ("load", 0)], names="x y a x")
        self.code("y", [tick(), ("load", 2)], names="x y a x")
        self.code("x", [tick(), ("load", 2)], names="x x a y")

    def test_minus_and_not(self):
        self.code("-x", [tick(2), ("load", 1), ("minus",)])
        self.code("not x", [tick(2), ("load", 1), ("not",)])
        self.code("---1", [tick(4), ("number", 1), ("minus",), ("minus",), ("minus",)])

    def test_operators(self):
        for sign in "+ - * div mod == < <=".split():
            self.code(f"1 {sign} x", [tick(2), ("number", 1), tick(), ("load", 1), ("compute", sign)])
        self.code("1 + 2 * 3", [tick(2), ("number", 1), tick(2), ("number", 2), tick(), ("number", 3),
                                ("compute", "*"), ("compute", "+")])
        self.code("1 - 2 - 3", [tick(3), ("number", 1), tick(), ("number", 2), ("compute", "-"), tick(), ("number", 3),
                                ("compute", "-")])

    def test_pairs_and_lists(self):
        self.code("(1, true)", [tick(2), ("number", 1), tick(), ("truth", True), ("pair",)])
        self.code("[x]", [tick(2), ("load", 1), ("list", 1)])
        self.code("[1, [], 3]", [tick(2), ("number", 1), tick(), ("list", 0), tick(), ("number", 3), ("list", 3)])
        self.assertEqual(emit_term(listed(*[number(1)] * 8), [], {}),
                         [tick(2), ("number", 1), *[tick(), ("number", 1)] * 7, ("list", 8)])

    def test_note(self):
        self.code("note x then 2", [tick(2), ("load", 1), ("note",), tick(), ("number", 2)])
        self.code("note note 1 then 2 then note 3 then 4",
                  [tick(3), ("number", 1), ("note",), tick(), ("number", 2), ("note",), tick(2), ("number", 3), ("note",),
                   tick(), ("number", 4)])

    def test_calls_of_functions(self):
        for name, many in FUNCTIONS.items():
            expected = [tick(2), ("number", 1), tick(), ("number", 1)][:2 * many]
            self.assertEqual(emit_term(call(name, *[number(1)] * many), [], {}), [*expected, ("apply", name)])

    def test_calls_of_definitions(self):
        self.code("f()", [tick(), ("call", 3)], f=3)
        self.code("g(x)", [tick(2), ("load", 1), ("call", 0)], g=0, f=3)
        self.code("h(-1, x)", [tick(3), ("number", 1), ("minus",), tick(), ("load", 1), ("call", 5)], h=5)

    def test_let(self):
        self.code("let z = x in z", [tick(2), ("load", 1), ("bind",), tick(), ("load", 0), ("drop", 1)])
        self.code("let x = x in x + y", [tick(2), ("load", 1), ("bind",), tick(2), ("load", 0), tick(), ("load", 1),
                                         ("compute", "+"), ("drop", 1)])
        self.code("let z = let q = 1 in q in let r = z in (z, r)",
                  [tick(3), ("number", 1), ("bind",), tick(), ("load", 0), ("drop", 1), ("bind",), tick(2), ("load", 0),
                   ("bind",), tick(2), ("load", 1), tick(), ("load", 0), ("pair",), ("drop", 1), ("drop", 1)])
        self.code("(let z = 1 in z) + x", [tick(3), ("number", 1), ("bind",), tick(), ("load", 0), ("drop", 1), tick(),
                                           ("load", 1), ("compute", "+")])

    def test_and_or(self):
        for word in ("and", "or"):
            self.code(f"x {word} y", [tick(2), ("load", 1), (word, 5), tick(), ("load", 0)])
            self.code(f"x {word} y {word} true", [tick(3), ("load", 1), (word, 5), tick(), ("load", 0), (word, 8),
                                                  tick(), ("truth", True)])
            self.code(f"x {word} (y {word} true)", [tick(2), ("load", 1), (word, 8), tick(2), ("load", 0), (word, 8),
                                                    tick(), ("truth", True)])
            self.code(f"not (x {word} y)", [tick(3), ("load", 1), (word, 5), tick(), ("load", 0), ("not",)])
            self.code(f"[x {word} y, 1]", [tick(3), ("load", 1), (word, 5), tick(), ("load", 0), tick(), ("number", 1),
                                           ("list", 2)])

    def test_if(self):
        self.code("if x then 1 else 2", [tick(2), ("load", 1), ("unless", 6), tick(), ("number", 1), ("jump", 8), tick(),
                                         ("number", 2)])
        self.code("-(if x then -1 else 2)", [tick(3), ("load", 1), ("unless", 7), tick(2), ("number", 1), ("minus",),
                                             ("jump", 9), tick(), ("number", 2), ("minus",)])

    def test_nested_if(self):
        self.code("if x then if y then 1 else 2 else 3",
                  [tick(2), ("load", 1), ("unless", 12), tick(2), ("load", 0), ("unless", 9), tick(), ("number", 1),
                   ("jump", 11), tick(), ("number", 2), ("jump", 14), tick(), ("number", 3)])
        self.code("if if x then y else true then 1 else if y then 2 else 3",
                  [tick(3), ("load", 1), ("unless", 6), tick(), ("load", 0), ("jump", 8), tick(), ("truth", True),
                   ("unless", 12), tick(), ("number", 1), ("jump", 20), tick(2), ("load", 0), ("unless", 18), tick(),
                   ("number", 2), ("jump", 20), tick(), ("number", 3)])
        self.code("if x and y then 1 else 2",
                  [tick(3), ("load", 1), ("and", 5), tick(), ("load", 0), ("unless", 9), tick(), ("number", 1),
                   ("jump", 11), tick(), ("number", 2)])

    def test_fold(self):
        self.code("fold p q in spent from 0 do p",
                  [tick(2), ("fact", "spent"), tick(), ("number", 0), ("open",), ("each", 9), tick(), ("load", 1),
                   ("again", 5)])
        self.code("fold p q in [x] from y do q + x",
                  [tick(3), ("load", 1), ("list", 1), tick(), ("load", 0), ("open",), ("each", 13), tick(2), ("load", 0),
                   tick(), ("load", 3), ("compute", "+"), ("again", 6)])

    def test_nested_fold(self):
        self.code("fold p q in datum from 0 do fold p r in datum from q do p + q + r",
                  [tick(2), ("fact", "datum"), tick(), ("number", 0), ("open",), ("each", 22),
                   tick(2), ("fact", "datum"), tick(), ("load", 0), ("open",), ("each", 21),
                   tick(3), ("load", 1), tick(), ("load", 2), ("compute", "+"), tick(), ("load", 0), ("compute", "+"),
                   ("again", 11), ("again", 5)])
        self.code("fold p q in fold p q in [] from [] do q from x do let z = p in q",
                  [tick(3), ("list", 0), tick(), ("list", 0), ("open",), ("each", 9), tick(), ("load", 0), ("again", 5),
                   tick(), ("load", 1), ("open",), ("each", 20), tick(2), ("load", 1), ("bind",), tick(), ("load", 1),
                   ("drop", 1), ("again", 12)])

    def test_routines_and_names_stay(self):
        names, routines = ["x"], {"f": 0}
        emit_term(("let", "y", call("f"), ("fold", "a", "b", listed(), variable("x"), variable("y"))), names, routines)
        self.assertEqual((names, routines), (["x"], {"f": 0}))


class ScriptTest(unittest.TestCase):
    def code(self, text, *routines):
        script = read_script(text)
        found = emit_script(script)
        self.assertEqual(found, routines)
        self.assertIsInstance(found, tuple)
        for routine in found:
            self.assertIsInstance(routine, tuple)
            self.assertIsInstance(routine[1], tuple)
            for instruction in routine[1]:
                self.assertIsInstance(instruction, tuple)

    def test_body_alone(self):
        self.code("1", (0, (tick(), ("number", 1), ("return",))))
        self.code("true and false",
                  (0, (tick(2), ("truth", True), ("and", 5), tick(), ("truth", False), ("return",))))

    def test_parameters(self):
        self.code("def f() = 1; def g(x) = x; def h(x, y) = x - y; def i(a, b, c, d) = [a, b, c, d]; 5",
                  (0, (tick(), ("number", 1), ("return",))),
                  (1, (tick(), ("load", 0), ("return",))),
                  (2, (tick(2), ("load", 1), tick(), ("load", 0), ("compute", "-"), ("return",))),
                  (4, (tick(2), ("load", 3), tick(), ("load", 2), tick(), ("load", 1), tick(), ("load", 0), ("list", 4),
                       ("return",))),
                  (0, (tick(), ("number", 5), ("return",))))

    def test_parameters_under_let_and_fold(self):
        self.code("def f(a, b) = let c = b in fold x s in [] from a do a + c; 1",
                  (2, (tick(2), ("load", 0), ("bind",), tick(2), ("list", 0), tick(), ("load", 2), ("open",), ("each", 15),
                       tick(2), ("load", 4), tick(), ("load", 2), ("compute", "+"), ("again", 8), ("drop", 1),
                       ("return",))),
                  (0, (tick(), ("number", 1), ("return",))))

    def test_calls(self):
        self.code("def f(x) = x; def g(x) = f(-x); (g(1), f(2))",
                  (1, (tick(), ("load", 0), ("return",))),
                  (1, (tick(3), ("load", 0), ("minus",), ("call", 0), ("return",))),
                  (0, (tick(3), ("number", 1), ("call", 1), tick(2), ("number", 2), ("call", 0), ("pair",), ("return",))))

    def test_names_like_words(self):
        self.code("def tick(list) = list; def pair() = tick(1); pair()",
                  (1, (tick(), ("load", 0), ("return",))),
                  (0, (tick(2), ("number", 1), ("call", 0), ("return",))),
                  (0, (tick(), ("call", 1), ("return",))))

    def test_made_up_scripts(self):
        source = random.Random(13)
        for _ in range(300):
            script = any_script(source, source.randint(1, 6))
            program = emit_script(script)
            self.assertEqual(len(program), len(script[0]) + 1)
            for (_, instructions), term in zip(program, terms_of(script)):
                ticks = [one[1] for one in instructions if one[0] == "tick"]
                self.assertEqual(sum(ticks), size(term))
                self.assertEqual([one[0] for one in instructions].count("return"), 1)
                self.assertEqual(instructions[-1], ("return",))
                for one, other in zip(instructions, instructions[1:]):
                    self.assertFalse(one[0] == "tick" == other[0])
                    self.assertNotEqual(one[0], "gap")


if __name__ == "__main__":
    unittest.main()
