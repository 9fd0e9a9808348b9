"""keptcoin/scripts/terms.py (2.1 to 2.3)."""

import types
import unittest

from keptcoin.scripts import terms
from keptcoin.scripts.terms import depth, head_word, parts, scopes, size, terms_of, walk, with_parts
from tests.helpers import FAIL, TRUE, binary, call, fact, listed, minus, nested, number, variable

A, B, C = number(1), variable("x"), fact("here")

# Terms of all forms, with their parts.
FORMS = [
    (number(0), ()),
    (number(10 ** 15), ()),
    (TRUE, ()),
    (("truth", False), ()),
    (B, ()),
    (C, ()),
    (FAIL, ()),
    (minus(A), (A,)),
    (("not", B), (B,)),
    (("pair", A, B), (A, B)),
    (listed(), ()),
    (listed(A), (A,)),
    (listed(A, B, C, A, A, B, B, C), (A, B, C, A, A, B, B, C)),
    (call("f"), ()),
    (call("f", A), (A,)),
    (call("item", A, B), (A, B)),
    (call("f", A, B, C, A), (A, B, C, A)),
    (("let", "x", A, B), (A, B)),
    (("if", C, A, B), (C, A, B)),
    (("fold", "x", "s", A, B, C), (A, B, C)),
    (("note", A, B), (A, B)),
] + [(binary(sign, A, B), (A, B)) for sign in "+ - * div mod == < <= and or".split()]


class TermsTest(unittest.TestCase):
    def test_limits(self):
        self.assertEqual(terms.MOST, 10 ** 15)
        self.assertEqual((terms.MOST_TOKENS, terms.MOST_OPEN, terms.MOST_DEPTH), (200, 16, 16))
        self.assertEqual((terms.MOST_DEFINITIONS, terms.MOST_PARAMETERS, terms.MOST_ITEMS), (6, 4, 8))

    def test_words(self):
        facts = "begins ends signers spent looked made here datum redeemer guarding".split()
        functions = [("first", 1), ("second", 1), ("count", 1), ("head", 1), ("tail", 1), ("item", 2), ("coin", 1),
                     ("held", 2), ("data", 1), ("keyed", 2), ("homed", 1), ("minted", 1), ("signed", 1), ("spends", 2)]
        others = "def let in if then else fold from do note or and not div mod true false fail".split()
        self.assertEqual(terms.FACTS, tuple(facts))
        self.assertEqual(list(terms.FUNCTIONS.items()), functions)
        self.assertIsInstance(terms.FUNCTIONS, dict)
        self.assertEqual(terms.RESERVED, tuple(facts + [name for name, _ in functions] + others))

    def test_parts(self):
        for term, expected in FORMS:
            self.assertEqual(parts(term), expected, term)
            self.assertIsInstance(parts(term), tuple)

    def test_walk_size_depth_of_small_terms(self):
        for term, inner in FORMS:
            self.assertEqual(list(walk(term)), [term, *inner], term)
            self.assertEqual(size(term), 1 + len(inner))
            self.assertEqual(depth(term), 2 if inner else 1)

    def test_walk_is_a_generator(self):
        self.assertIsInstance(walk(A), types.GeneratorType)
        self.assertEqual(list(walk(minus(number(4)))), [minus(number(4)), number(4)])

    def test_walk_goes_into_each_part_before_the_next_one(self):
        left, right = binary("+", number(1), minus(number(2))), listed(number(3), number(4))
        term = ("if", ("not", variable("c")), left, right)
        self.assertEqual(list(walk(term)), [
            term, ("not", variable("c")), variable("c"), left, number(1), minus(number(2)), number(2), right,
            number(3), number(4)])
        self.assertEqual(size(term), 10)
        self.assertEqual(depth(term), 4)

    def test_equal_terms_count_each(self):
        term = A
        for _ in range(10):
            term = ("pair", term, term)
        self.assertEqual(size(term), 2 ** 11 - 1)
        self.assertEqual(depth(term), 11)

    def test_depth_is_that_of_the_deepest_part(self):
        self.assertEqual(depth(call("f", A, nested("not", 3, B), minus(A))), 5)
        self.assertEqual(depth(nested("minus", 29, A)), 30)
        self.assertEqual(size(nested("minus", 29, A)), 30)

    def test_scopes(self):
        for term, inner in FORMS:
            bound = [()] * len(inner)
            if term[0] == "let":
                bound = [(), ("x",)]
            if term[0] == "fold":
                bound = [(), (), ("x", "s")]
            self.assertEqual(scopes(term), list(zip(inner, bound)), term)

    def test_with_parts(self):
        for term, inner in FORMS:
            others = tuple([number(50 + at) for at in range(len(inner))])
            self.assertEqual(with_parts(term, inner), term)
            self.assertEqual(parts(with_parts(term, others)), others)
            self.assertEqual(parts(with_parts(term, list(others))), others)
            self.assertEqual(with_parts(with_parts(term, others), inner), term)

    def test_head_word(self):
        for term, _ in FORMS:
            self.assertEqual(head_word(term), term[1] if len(term) == 4 and term[0] == "binary" else term[0])

    def test_terms_of(self):
        script = ((("f", (), A), ("g", ("x", "y"), B)), C)
        self.assertEqual(terms_of(script), [A, B, C])
        self.assertEqual(terms_of(((), C)), [C])
        self.assertIsInstance(terms_of(((), C)), list)
        answer = terms_of(script)
        answer.clear()
        self.assertEqual(terms_of(script), [A, B, C])

    def test_terms_with_wrong_uses(self):
        term = ("fold", "x", "x", call("nothing", variable("y")), A, A)
        self.assertEqual(size(term), 5)
        self.assertEqual(terms_of(((("f", ("x", "x"), A), ("f", (), B)), term)), [A, B, term])


if __name__ == "__main__":
    unittest.main()
