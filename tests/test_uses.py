"""keptcoin/scripts/uses.py (2.7, 2.8)."""

import unittest

from keptcoin.errors import BadUse
from keptcoin.scripts.terms import FACTS, FUNCTIONS
from keptcoin.scripts.uses import check_uses
from tests.helpers import FAIL, TRUE, Checks, binary, call, fact, listed, minus, nested, number, variable

ONE = number(1)
X, Y, Z, S = variable("x"), variable("y"), variable("z"), variable("s")


def body(term):
    return ((), term)


class UsesTest(Checks, unittest.TestCase):
    def good(self, script):
        self.assertIsNone(check_uses(script))

    def wrong(self, name, script):
        self.fails(BadUse, name, check_uses, script)

    def test_good_terms(self):
        for term in [ONE, TRUE, FAIL, listed(), listed(ONE, TRUE), ("pair", ONE, FAIL), minus(ONE), ("not", ONE),
                     ("if", ONE, ONE, ONE), ("note", ONE, ONE), binary("+", ONE, TRUE)] + [fact(w) for w in FACTS]:
            self.good(body(term))

    def test_functions_with_the_numbers_of_their_arguments(self):
        for name, many in FUNCTIONS.items():
            for given in range(5):
                script = body(call(name, *[ONE] * given))
                if given == many:
                    self.good(script)
                else:
                    self.wrong(name, script)

    def test_unbound_variables(self):
        self.wrong("x", body(X))
        for term in [minus(X), ("not", X), binary("*", ONE, X), binary("and", X, ONE), ("pair", ONE, X),
                     listed(ONE, X), call("count", X), ("if", ONE, ONE, X), ("note", ONE, X), ("note", X, ONE),
                     ("let", "y", ONE, X), ("fold", "y", "s", listed(), ONE, X)]:
            self.wrong("x", body(term))

    def test_let_binds_in_its_second_part_alone(self):
        self.good(body(("let", "x", ONE, X)))
        self.wrong("x", body(("let", "x", X, ONE)))
        self.wrong("x", body(binary("+", ("let", "x", ONE, X), X)))
        self.good(body(("let", "x", ONE, ("let", "x", X, X))))
        self.good(body(("let", "x", ONE, ("let", "y", X, binary("+", X, Y)))))
        self.wrong("y", body(("let", "x", ("let", "y", ONE, Y), Y)))

    def test_fold_binds_in_its_third_part_alone(self):
        self.good(body(("fold", "x", "s", listed(), ONE, binary("+", X, S))))
        for name, term in [("x", X), ("s", S)]:
            self.wrong(name, body(("fold", "x", "s", term, ONE, ONE)))
            self.wrong(name, body(("fold", "x", "s", listed(), term, ONE)))
            self.wrong(name, body(binary("+", ("fold", "x", "s", listed(), ONE, ONE), term)))

    def test_fold_with_equal_variables(self):
        self.wrong("x", body(("fold", "x", "x", listed(), ONE, ONE)))
        self.wrong("x", body(("fold", "x", "x", Y, Z, ONE)))
        self.good(body(("let", "x", ONE, ("fold", "x", "s", listed(X), X, X))))

    def test_parameters_are_bound_in_their_definition_alone(self):
        self.good(((("f", ("x", "y"), binary("+", X, Y)),), call("f", ONE, ONE)))
        self.wrong("x", ((("f", ("x",), X),), X))
        self.wrong("x", ((("f", ("x",), X), ("g", ("y",), X)), ONE))
        self.wrong("y", ((("f", (), Y),), ONE))

    def test_calls_of_definitions(self):
        one, two = ("f", ("x",), X), ("g", ("x",), call("f", X))
        self.good(((one, two), call("g", ONE)))
        self.wrong("f", ((two, one), ONE))
        self.wrong("f", body(call("f", ONE)))
        self.wrong("f", ((one,), call("f")))
        self.wrong("f", ((one,), call("f", ONE, ONE)))
        self.wrong("f", ((("f", (), call("f")),), ONE))
        self.good(((("f", (), ONE),), call("f")))
        self.wrong("f", ((("f", (), ONE),), call("f", ONE)))
        self.good(((("f", ("a", "b", "c", "d"), ONE),), call("f", ONE, ONE, ONE, ONE)))

    def test_variables_and_definitions_have_separate_names(self):
        self.good(((("x", (), ONE),), ("let", "x", call("x"), binary("+", X, call("x")))))
        self.wrong("x", ((("x", (), ONE),), X))
        self.wrong("x", body(("let", "x", ONE, call("x"))))
        self.good(((("x", ("x",), X),), call("x", ONE)))
        self.wrong("x", ((("x", ("x",), call("x", X)),), ONE))

    def test_names_of_definitions(self):
        self.wrong("f", ((("f", (), ONE), ("g", (), ONE), ("f", ("x",), ONE)), ONE))
        self.wrong("g", ((("f", (), ONE), ("g", (), ONE), ("g", (), ONE), ("f", (), ONE)), ONE))

    def test_parameters(self):
        self.wrong("x", ((("f", ("x", "x"), ONE),), ONE))
        self.wrong("y", ((("f", ("x", "y", "y", "x"), ONE),), ONE))
        self.wrong("x", ((("f", ("x", "y", "z", "x"), ONE),), ONE))

    def test_order_within_a_definition(self):
        first = ("f", (), ONE)
        self.wrong("f", ((first, ("f", ("x", "x"), Y)), Z))
        self.wrong("x", ((first, ("g", ("x", "x"), Y)), Z))
        self.wrong("y", ((first, ("g", ("x",), Y)), Z))
        self.wrong("z", ((first, ("g", ("x",), X)), Z))

    def test_order_of_definitions(self):
        self.wrong("y", ((("f", (), Y), ("f", (), Z)), X))
        self.wrong("f", ((("f", (), ONE), ("f", (), Z)), X))

    def test_order_of_walking(self):
        self.wrong("x", body(binary("+", X, Y)))
        self.wrong("x", body(("if", minus(X), Y, Z)))
        self.wrong("f", body(call("f", X)))
        self.wrong("first", body(call("first", X, Y)))
        self.wrong("x", body(call("item", X, call("f"))))
        self.wrong("x", body(("fold", "x", "x", call("f"), Y, Z)))
        self.wrong("y", body(("fold", "x", "s", Y, Z, call("f"))))
        self.wrong("z", body(("fold", "x", "s", listed(), Z, call("f"))))
        self.wrong("y", body(("let", "x", Y, Z)))
        self.wrong("z", body(("let", "x", ONE, binary("-", X, Z))))
        self.wrong("x", body(("note", X, call("f"))))

    def test_deep_terms(self):
        self.good(body(nested("minus", 29, ONE)))
        self.wrong("x", body(nested("not", 29, X)))
        term = X
        for _ in range(28):
            term = ("let", "x", X, term)
        self.good(body(("let", "x", ONE, term)))
        self.wrong("x", body(term))
        self.wrong("deep", ((("f", (), nested("minus", 29, call("deep"))),), X))

    def test_arguments_stay(self):
        script = ((("f", ("x",), X),), ("let", "x", call("f", ONE), X))
        self.good(script)
        self.assertEqual(script, ((("f", ("x",), X),), ("let", "x", call("f", ONE), X)))
        self.assertEqual(len(FUNCTIONS), 14)


if __name__ == "__main__":
    unittest.main()
