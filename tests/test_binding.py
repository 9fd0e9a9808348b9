"""keptcoin/scripts/binding.py (5.1)."""

import random
import unittest

from keptcoin.scripts.binding import captures, free_variables, put
from keptcoin.scripts.terms import size, walk
from tests.helpers import FAIL, TRUE, binary, call, fact, listed, minus, number, read_term, variable
from tests.making import any_term
from tests.test_terms import FORMS

X, Y, A, B = [variable(name) for name in "xyab"]


class FreeVariablesTest(unittest.TestCase):
    def free(self, expected, text):
        found = free_variables(read_term(text))
        self.assertEqual(found, expected.split(), text)
        self.assertIsInstance(found, list)

    def test_terms_without_parts(self):
        for term in (number(1), TRUE, FAIL, fact("here"), listed(), call("f")):
            self.assertEqual(free_variables(term), [])
        self.assertEqual(free_variables(X), ["x"])

    def test_each_form(self):
        for text in ("-x", "not x", "[x]", "head(x)", "count([x, 1])"):
            self.free("x", text)
        for sign in "+ - * div mod == < <= and or".split():
            self.free("x y", f"y {sign} x")
        self.free("a b", "(b, a)")
        self.free("a b x y", "[y, x, b, a]")
        self.free("a x y", "if y then x else a")
        self.free("a b", "note b then a")
        self.free("a y", "item(y, a)")
        self.assertEqual(free_variables(call("f", Y, X, A, B)), ["a", "b", "x", "y"])

    def test_ascending_and_once(self):
        self.free("a x y", "[y, x, a, y, x, a]")
        self.assertEqual(free_variables(listed(variable("zed"), variable("ab"), variable("b"))), ["ab", "b", "zed"])

    def test_let(self):
        self.free("", "let x = 1 in x")
        self.free("x", "let x = x in x")
        self.free("x y", "[x, let x = y in x]")
        self.free("a", "let x = a in x + x")
        self.free("a b", "let x = a in x + b")
        self.free("x", "(let x = 1 in x) + x")

    def test_fold(self):
        self.free("", "fold x y in [] from 0 do x + y")
        self.free("x", "fold x y in x from 0 do x + y")
        self.free("x", "fold x y in [] from x do x + y")
        self.free("y", "fold x y in y from 0 do x + y")
        self.free("y", "fold x y in [] from y do x + y")
        self.free("a b", "fold x y in [] from 0 do x + y + a + b")
        self.free("x y", "(fold x y in [] from 0 do x + y) + (y + x)")

    def test_nested_binders(self):
        self.free("b", "let x = 1 in let y = x in fold a x in [y] from b do a + x + y")
        self.free("x", "let y = let x = 1 in x in y + x")
        self.free("y", "let x = let y = y in y in x")


class CapturesTest(unittest.TestCase):
    def captured(self, expected, text, **table):
        table = {name: read_term(inner) for name, inner in table.items()}
        self.assertIs(captures(read_term(text), table), expected, text)

    def test_without_binders(self):
        self.captured(False, "x + y", x="y", y="x")
        self.captured(False, "x", x="x")
        self.captured(False, "1", x="y")
        self.captured(False, "x")

    def test_let(self):
        self.captured(True, "let y = 1 in x", x="y")
        self.captured(True, "let y = 1 in x + y", x="[1, -y]")
        self.captured(False, "let y = 1 in x", x="a")
        self.captured(False, "let y = 1 in x", x="2")
        self.captured(False, "let y = x in y", x="y")
        self.captured(False, "let y = x in 1", x="y")
        self.captured(False, "(let y = 1 in y) + x", x="y")

    def test_variable_that_is_not_free(self):
        self.captured(False, "let x = 1 in let y = 2 in x", x="y")
        self.captured(False, "let y = 1 in let x = 2 in x", x="y")
        self.captured(True, "let y = 1 in let x = x in x", x="y")
        self.captured(False, "fold x y in [] from 0 do x + y", x="y", y="x")
        self.captured(False, "let y = 1 in y", x="y")

    def test_binder_of_the_place_itself(self):
        self.captured(False, "let x = 1 in x", x="x")
        self.captured(False, "let a = 1 in x + y", x="x", y="y")

    def test_variable_that_the_put_term_binds_itself(self):
        self.captured(False, "let y = 1 in x", x="let y = 2 in y")
        self.captured(True, "let y = 1 in x", x="let y = y in y")
        self.captured(False, "let y = 1 in x", x="fold y a in [] from 0 do y + a")
        self.captured(True, "let y = 1 in x", x="fold y a in [] from y do y + a")

    def test_fold(self):
        self.captured(True, "fold y b in [] from 0 do x", x="y")
        self.captured(True, "fold b y in [] from 0 do x", x="y")
        self.captured(False, "fold y b in x from 0 do 1", x="y")
        self.captured(False, "fold y b in [] from x do 1", x="b")
        self.captured(False, "fold y b in [] from 0 do x", x="a")
        self.captured(True, "fold y b in [] from 0 do x", x="a + b")

    def test_binders_further_out(self):
        self.captured(True, "let y = 1 in let a = 2 in x", x="y")
        self.captured(True, "let a = 1 in -(2 + (fold b y in [] from 0 do note x then 1))", x="a")
        self.captured(False, "let y = (let a = x in a) in y", x="y")
        self.captured(True, "let y = 1 in let a = x in a", x="y")

    def test_several(self):
        self.captured(True, "(let b = 1 in x) + (let a = 1 in y)", x="a", y="a")
        self.captured(False, "(let b = 1 in x) + (let a = 1 in y)", x="a", y="b")
        self.captured(True, "let b = 1 in x + y", x="1", y="b")
        self.captured(False, "let b = 1 in x + b", x="1", y="b")

    def test_the_dict_stays(self):
        table = {"x": Y, "y": X}
        self.assertFalse(captures(binary("+", X, Y), table))
        self.assertEqual(table, {"x": Y, "y": X})


class PutTest(unittest.TestCase):
    def puts(self, expected, text, **table):
        table = {name: read_term(inner) for name, inner in table.items()}
        copy = dict(table)
        self.assertEqual(put(read_term(text), table), read_term(expected), text)
        self.assertEqual(table, copy)

    def test_each_form(self):
        for text in ("1", "true", "fail", "here", "[]"):
            self.puts(text, text, x="5")
        self.puts("5", "x", x="5")
        self.puts("y", "y", x="5")
        self.puts("-5", "-x", x="5")
        self.puts("not 5", "not x", x="5")
        for sign in "+ - * div mod == < <= and or".split():
            self.puts(f"5 {sign} y", f"x {sign} y", x="5")
        self.puts("(5, 6)", "(x, y)", x="5", y="6")
        self.puts("[5, 6, 5, 1]", "[x, y, x, 1]", x="5", y="6")
        self.puts("if 5 then 6 else 5", "if x then y else x", x="5", y="6")
        self.puts("note 5 then 6", "note x then y", x="5", y="6")
        self.puts("item(5, 6)", "item(x, y)", x="5", y="6")
        self.assertEqual(put(call("f", X, Y, X, A), {"x": B}), call("f", B, Y, B, A))
        self.assertEqual(put(call("x", X), {"x": B}), call("x", B))

    def test_let(self):
        self.puts("let x = 5 in x", "let x = x in x", x="5")
        self.puts("let y = 5 in 5 + y", "let y = x in x + y", x="5", y="6")
        self.puts("let x = 6 in x + 6", "let x = y in x + y", x="5", y="6")

    def test_fold(self):
        self.puts("fold x y in [5] from 5 do x + y + 7", "fold x y in [x] from x do x + y + a", x="5", a="7")
        self.puts("fold x y in [6] from 6 do x + y", "fold x y in [y] from y do x + y", y="6")
        self.puts("fold a b in [5] from 6 do 5 + 6 + a + b", "fold a b in [x] from y do x + y + a + b",
                  x="5", y="6", a="7", b="8")

    def test_all_at_once(self):
        self.puts("y + x", "x + y", x="y", y="x")
        self.puts("[x + y, a, x]", "[b, y, x]", b="x + y", y="a", x="x")
        self.puts("-(x + 1)", "-x", x="x + 1")

    def test_nothing_is_renamed(self):
        self.puts("let y = 1 in y + y", "let y = 1 in x + y", x="y")
        self.puts("fold x y in [] from 0 do x + y", "fold x y in [] from 0 do x + a", a="y")

    def test_empty_dict(self):
        for term, _ in FORMS:
            self.assertEqual(put(term, {}), term)
            self.assertEqual(put(term, {"zed": number(1)}), term)

    def test_made_up_terms(self):
        source = random.Random(11)
        for _ in range(500):
            term = any_term(source, source.randint(1, 7), ["x", "y", "zed"], {"f": 0, "g": 2})
            free = free_variables(term)
            self.assertLessEqual(set(free), {"x", "y", "zed"})
            self.assertEqual(put(term, {name: variable(name) for name in free}), term)
            # What is put holds nothing that could be captured, so it stands where the variables stood.
            gone = put(term, {"x": minus(number(3))})
            self.assertEqual(free_variables(gone), [name for name in free if name != "x"])
            self.assertEqual(size(gone) > size(term), "x" in free)
            self.assertFalse(captures(term, {"x": minus(number(3))}))
            renamed = put(term, {"x": variable("other"), "y": variable("more")})
            self.assertEqual(put(renamed, {"other": X, "more": Y}), term)
            self.assertEqual(len(list(walk(renamed))), len(list(walk(term))))


if __name__ == "__main__":
    unittest.main()
