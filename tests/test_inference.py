"""keptcoin/scripts/inference.py (3.4 to 3.7)."""

import random
import unittest

from keptcoin.errors import NoKind
from keptcoin.scripts.inference import annotate, infer_script
from keptcoin.scripts.kinds import format_kind, is_instance, kind_size
from keptcoin.scripts.reader import read_script
from keptcoin.scripts.terms import FACTS, FUNCTIONS, size, terms_of
from tests.helpers import Checks
from tests.making import kinded_script

# Terms of some kinds, for the places of parts.
SAMPLES = {"int": "1", "bool": "true", "output": "here", "[int]": "datum", "[output]": "spent", "(int, bool)": "(1, true)"}


class InferenceTest(Checks, unittest.TestCase):
    def kind_of(self, text):
        """The kind of the body of a text, formatted."""
        return format_kind(infer_script(read_script(text))[1])

    def has(self, kind, text):
        self.assertEqual(self.kind_of(text), kind, text)

    def none(self, index, text):
        script = read_script(text)
        self.fails(NoKind, index, infer_script, script)
        self.fails(NoKind, index, annotate, script)

    def signature(self, text, parameters, result):
        """The first definition of a text has this signature, formatted."""
        kinds, kind = infer_script(read_script(text + "; 1"))[0][0]
        self.assertIsInstance(kinds, tuple)
        self.assertEqual(([format_kind(one) for one in kinds], format_kind(kind)), (parameters, result), text)

    def fits(self, kinds, result, text):
        """Parts of just these kinds may stand in the places of A, B and C."""
        places = "ABC"[:len(kinds)]
        for place, kind in zip(places, kinds):
            for sample, term in SAMPLES.items():
                filled = text.replace(place, term)
                for other, wanted in zip(places, kinds):
                    filled = filled.replace(other, SAMPLES[wanted])
                if sample == kind:
                    self.has(result, filled)
                else:
                    self.none(0, filled)

    def test_of_the_interface(self):
        self.assertEqual(infer_script(read_script("def same(x) = x; (same(1), same(true))")), (
            (((("any", 0),), ("any", 0)),), ("pair", ("int",), ("bool",))))

    def test_terms_without_parts(self):
        for kind, text in [("int", "1"), ("bool", "true"), ("bool", "false"), ("any0", "fail"), ("[any0]", "[]")]:
            self.has(kind, text)

    def test_facts(self):
        kinds = dict(begins="int", ends="int", guarding="bool", here="output", spent="[output]", looked="[output]",
                     made="[output]", signers="[int]", datum="[int]", redeemer="[int]")
        self.assertEqual(sorted(kinds), sorted(FACTS))
        for word, kind in kinds.items():
            self.has(kind, word)

    def test_operators(self):
        for sign in "+ - * div mod".split():
            self.fits(["int", "int"], "int", f"A {sign} B")
        for sign in "== < <=".split():
            self.fits(["int", "int"], "bool", f"A {sign} B")
        for sign in "and or".split():
            self.fits(["bool", "bool"], "bool", f"A {sign} B")
        self.fits(["int"], "int", "-A")
        self.fits(["bool"], "bool", "not A")

    def test_functions(self):
        seen = {"first", "second", "count", "head", "tail", "item"}
        for name, kinds, result in [
            ("coin", ["output"], "int"), ("held", ["output", "int"], "int"), ("data", ["output"], "[int]"),
            ("keyed", ["output", "int"], "bool"), ("homed", ["output"], "bool"), ("minted", ["int"], "int"),
            ("signed", ["int"], "bool"), ("spends", ["int", "int"], "bool"),
        ]:
            self.fits(kinds, result, name + "(" + ", ".join("AB"[:len(kinds)]) + ")")
            seen.add(name)
        self.assertEqual(seen, set(FUNCTIONS))

    def test_functions_of_any_kind(self):
        self.fits(["(int, bool)"], "int", "first(A)")
        self.fits(["(int, bool)"], "bool", "second(A)")
        for function, result in [("count", ["int", "int", "int"]), ("head", ["int", "output", "any0"]),
                                 ("tail", ["[int]", "[output]", "[any0]"])]:
            for term, kind in zip(["datum", "spent", "[]"], result):
                self.has(kind, f"{function}({term})")
                if function == "head":
                    self.has(kind, f"item({term}, 0)")
            for term in ("1", "true", "here", "(datum, 1)"):
                self.none(0, f"{function}({term})")
                self.none(0, f"item({term}, 0)")
        self.none(0, "item(datum, true)")
        self.has("(any0, any1)", "(fail, head([]))")
        self.has("(int, bool)", "(first((1, true)), first((true, 1)))")
        self.has("any0", "first(fail)")

    def test_pairs_and_lists(self):
        self.has("(int, bool)", "(1, true)")
        self.has("((output, [any0]), any1)", "((here, []), fail)")
        self.has("[int]", "[1]")
        self.has("[int]", "[1, 2, fail]")
        self.has("[int]", "[fail]")
        for term in ("true", "here", "[]", "datum", "(1, 1)"):
            self.none(0, f"[{term}]")
            self.none(0, f"[1, {term}]")
            self.none(0, f"[1, 1, 1, 1, 1, 1, 1, {term}]")
        self.has("[int]", "[1, 1, 1, 1, 1, 1, 1, 1]")

    def test_let(self):
        self.has("bool", "let x = 1 in true")
        self.has("int", "let x = 1 in x")
        self.has("(int, int)", "let x = 1 in (x, x)")
        self.none(0, "let x = 1 in not x")
        self.has("bool", "let x = 1 in let x = true in x")
        self.has("int", "let x = true in let y = 1 in y")

    def test_let_has_one_kind(self):
        self.none(0, "let x = [] in (head(x) + 1, not head(x))")
        self.none(0, "let x = fail in (x + 1, not x)")
        self.has("([int], int)", "let x = [] in (x, head(x) + 1)")
        self.has("(any0, any0)", "let x = fail in (x, x)")

    def test_if(self):
        self.has("int", "if true then 1 else 2")
        self.has("int", "if true then fail else 2")
        self.has("any0", "if fail then fail else fail")
        self.has("[int]", "if true then [] else datum")
        self.fits(["bool", "int", "int"], "int", "if A then B else C")
        self.none(0, "if true then 1 else true")
        self.none(0, "if true then datum else spent")

    def test_fold(self):
        self.has("int", "fold x s in datum from 0 do x + s")
        self.has("bool", "fold x s in spent from true do keyed(x, 1) and s")
        self.has("[int]", "fold x s in spent from [] do if true then [coin(x)] else s")
        self.none(0, "fold x s in 1 from 0 do 0")
        self.none(0, "fold x s in datum from 0 do true")
        self.none(0, "fold x s in datum from true do x")
        self.none(0, "fold x s in spent from 0 do x + s")
        self.none(0, "fold x s in datum from true do s + 1")
        self.has("any0", "fold x s in [] from fail do s")
        self.has("any0", "fold x s in fail from fail do x")
        self.has("bool", "fold x s in fail from true do x")

    def test_note(self):
        self.has("bool", "note 1 then true")
        self.has("any0", "note fail then fail")
        self.none(0, "note true then 1")
        self.none(0, "note datum then 1")

    def test_signatures(self):
        self.signature("def f() = 1", [], "int")
        self.signature("def f(x) = x", ["any0"], "any0")
        self.signature("def f(x, y) = y", ["any0", "any1"], "any1")
        self.signature("def f(x, y) = (y, x)", ["any0", "any1"], "(any1, any0)")
        self.signature("def f(x, y) = x + y", ["int", "int"], "int")
        self.signature("def f(x) = head(x)", ["[any0]"], "any0")
        self.signature("def f(x) = fail", ["any0"], "any1")
        self.signature("def f(x, y, z, w) = fail", ["any0", "any1", "any2", "any3"], "any4")
        self.signature("def f() = fail", [], "any0")
        self.signature("def f(x, y) = if x then y else []", ["bool", "[any0]"], "[any0]")
        self.signature("def f(x, y) = first((first(y), x))", ["any0", "(any1, any2)"], "any1")
        self.signature("def f(l, b) = fold x s in l from b do x", ["[any0]", "any0"], "any0")

    def test_definitions_at_several_kinds(self):
        self.has("(int, (bool, [any0]))", "def f(x) = x; (f(1), (f(true), f([])))")
        self.has("(int, output)", "def f(x) = head(x); (f(datum), f(spent))")
        self.has("(int, (bool, int))", "def f(x, y) = (y, x); let a = f(true, 1) in (first(a), f(first(a), second(a)))")
        self.has("(any0, any1)", "def f() = fail; (f(), f())")
        self.has("int", "def f() = fail; if f() then f() + 1 else f()")
        self.has("(bool, int)", "def f(x) = x; def g(x) = f(x); (g(true), g(1))")

    def test_calls_keep_the_signature(self):
        self.none(1, "def f(x) = x + 1; f(true)")
        self.none(1, "def f(x) = x; not f(1)")
        self.none(1, "def f(x, y) = if true then x else y; f(1, true)")
        self.has("int", "def f(x, y) = if true then x else y; f(1, 2)")
        self.none(2, "def f(x) = x; def g(x) = f(x) + 1; g(true)")

    def test_a_parameter_has_one_kind(self):
        self.none(0, "def f(x) = (x + 1, not x); 1")
        self.none(0, "def f(x) = (head(x), x + 1); 1")
        self.none(0, "def f(x) = if x then x else 1; 1")
        self.none(1, "def same(x) = x; def f(x) = (same(x) + 1, not same(x)); 1")
        self.none(0, "def f(x) = head(if true then x else [x]); 1")

    def test_index(self):
        self.none(0, "def f() = 1 + true; 1")
        self.none(1, "def f() = 1; def g() = not 1; 1")
        self.none(0, "def f() = 1 + true; def g() = not 1; -true")
        self.none(2, "def f() = 1; def g() = 2; -true")
        self.none(0, "-true")
        good = "".join([f"def {name}() = 1; " for name in "abcdef"])
        self.has("int", good + "1")
        self.none(6, good + "not 1")
        self.none(5, good.replace("def f() = 1", "def f() = not 1") + "not 1")

    def test_definitions_that_are_never_called(self):
        self.none(0, "def f(x) = x + true; 1")
        self.none(1, "def f(x) = x; def g() = f(1) and true; 1")

    def great(self, size):
        """A term whose kind has this size: a pair of one of size 31 and of another one."""
        others = {38: "((1, 1), datum)", 39: "b", 40: "((1, datum), a)", 41: "((datum, datum), a)"}
        return "let a = (1, 1) in let b = (a, a) in let c = (b, b) in let d = (c, c) in (d, " + others[size] + ")"

    def test_size(self):
        for size in (38, 39, 40):
            script = read_script(self.great(size))
            self.assertEqual(kind_size(infer_script(script)[1]), size)
            self.assertEqual(max([kind_size(kind) for kind in annotate(script)[0]]), size)
        self.none(0, self.great(41))
        self.none(0, f"def f() = {self.great(41)}; 1")
        self.none(1, f"def f() = {self.great(40)}; {self.great(41)}")
        self.none(1, f"def f() = {self.great(40)}; (f(), 1)")
        self.has("int", f"def f() = {self.great(40)}; first(first(second(f())))")

    def test_size_of_terms_that_are_not_the_whole(self):
        self.has("int", f"second(({self.great(38)}, 1))")
        self.none(0, f"second(({self.great(39)}, 1))")
        self.has("bool", f"let x = ({self.great(38)}, 1) in true")
        self.none(0, f"let x = ({self.great(39)}, 1) in true")
        self.none(0, f"def f(x) = second(({self.great(39)}, 1)); true")
        self.none(0, f"note second(({self.great(40)}, 1)) then 1")

    def test_size_of_parameters(self):
        heads = "def f(x) = " + "head(" * 13 + "x" + ")" * 13 + "; "
        signatures, _ = infer_script(read_script(heads + "def g(x) = f(f(f(x))); 1"))
        self.assertEqual(kind_size(signatures[1][0][0]), 40)
        self.none(1, heads + "def g(x) = f(f(f(head(x)))); 1")
        self.none(1, heads + "def g(x) = f(f(f(f(x)))); 1")

    def test_size_of_instances(self):
        twice = "def f(x) = (x, x); "
        self.assertEqual(kind_size(infer_script(read_script(twice + "f(f(f(f(1))))"))[1]), 31)
        self.none(1, twice + "f(f(f(f(f(1)))))")
        self.none(1, twice + "f(" * 14 + "1" + ")" * 14)

    def test_growing_kinds_are_found_quickly(self):
        lets = "".join([f"let {b} = ({a}, {a}) in " for a, b in zip("abcdefghijklmn", "bcdefghijklmno")])
        self.none(0, "def q(a) = " + lets + "1; 1")
        self.none(0, "def q(a) = " + lets + "first(o); 1")
        self.none(1, "def q(x) = (x, x); " + "q(" * 15 + "fail" + ")" * 15)

    def test_unknowns_in_a_kind_within_itself(self):
        self.none(0, "def f(x) = if true then x else (x, 1); 1")
        self.none(0, "def f(x) = fold a s in x from x do a; 1")
        self.none(0, "let x = [] in if true then head(x) else x")

    def test_parameters_that_are_never_used(self):
        self.signature("def f(x, y) = 1", ["any0", "any1"], "int")

    def test_numbers(self):
        script = read_script("def f(y, x) = (fail, (x, (y, fail))); (fail, ([], fail))")
        signatures, kind = infer_script(script)
        self.assertEqual([format_kind(one) for one in signatures[0][0]], ["any0", "any1"])
        self.assertEqual(format_kind(signatures[0][1]), "(any2, (any1, (any0, any3)))")
        self.assertEqual(format_kind(kind), "(any0, ([any1], any2))")

    def test_annotate(self):
        script = read_script("def f(x) = head([]); let y = fail in if y then f(1) else 2")
        answer = annotate(script)
        self.assertIsInstance(answer, list)
        for kinds in answer:
            self.assertIsInstance(kinds, list)
        self.assertEqual([[format_kind(kind) for kind in kinds] for kinds in answer],
                         [["any1", "[any1]"], ["int", "bool", "int", "bool", "int", "int", "int"]])

    def test_annotate_numbers_of_unknowns_within_terms(self):
        # The kinds of the parts that do not stand in the kind of the whole are numbered last.
        script = read_script("def f(x, y) = second((head([]), first((y, [])))); count([])")
        kinds = [[format_kind(kind) for kind in kinds] for kinds in annotate(script)]
        self.assertEqual(kinds[0], ["any1", "(any2, any1)", "any2", "[any2]", "any1", "(any1, [any3])", "any1",
                                    "[any3]"])
        self.assertEqual(kinds[1], ["int", "[any0]"])

    def test_made_up_scripts(self):
        source = random.Random(5)
        for _ in range(300):
            script, kind = kinded_script(source, source.randint(1, 5))
            signatures, found = infer_script(script)
            self.assertIs(is_instance(kind, found), True)
            kinds = annotate(script)
            self.assertEqual([len(row) for row in kinds], [size(term) for term in terms_of(script)])
            self.assertEqual([row[0] for row in kinds], [result for _, result in signatures] + [found])
            self.assertEqual(infer_script(script), (signatures, found))


if __name__ == "__main__":
    unittest.main()
