"""keptcoin/scripts/functions.py (4.5 to 4.7)."""

import unittest

from keptcoin.amounts.assets import COIN
from keptcoin.amounts.bundle import Bundle
from keptcoin.scripts.facts import Facts
from keptcoin.scripts.functions import call_function, compute, fact_value
from keptcoin.scripts.terms import FACTS, FUNCTIONS

MOST = 10 ** 15
OWN = "signed(1)"


def output(address=("key", 1), rows=(), datum=(), reference=(5, 0)):
    return ("output", (reference, address, Bundle(rows), tuple(datum)))


def listed(*items):
    return ("list", tuple(items))


class ComputeTest(unittest.TestCase):
    def gives(self, value, sign, a, b):
        answer = compute(sign, a, b)
        self.assertEqual(answer, ("value", value), (sign, a, b))
        self.assertIs(answer[1].__class__, value.__class__)

    def ends(self, ending, sign, a, b):
        self.assertEqual(compute(sign, a, b), (ending, None), (sign, a, b))

    def test_sums(self):
        self.gives(5, "+", 2, 3)
        self.gives(-1, "-", 2, 3)
        self.gives(6, "*", 2, 3)
        self.gives(-6, "*", -2, 3)
        self.gives(0, "*", MOST, 0)

    def test_edges_of_the_range(self):
        self.gives(MOST, "+", MOST - 1, 1)
        self.ends("range", "+", MOST, 1)
        self.gives(-MOST, "+", 1 - MOST, -1)
        self.ends("range", "+", -MOST, -1)
        self.gives(-MOST, "-", 1 - MOST, 1)
        self.ends("range", "-", -MOST, 1)
        self.gives(MOST, "-", 0, -MOST)
        self.ends("range", "-", 1, -MOST)
        self.gives(MOST, "*", 10 ** 7, 10 ** 8)
        self.gives(-MOST, "*", MOST, -1)
        self.ends("range", "*", 10 ** 8, 10 ** 8)
        self.ends("range", "*", MOST, MOST)
        self.ends("range", "*", -MOST, MOST)
        self.gives(MOST, "div", -MOST, -1)
        self.gives(-MOST, "div", MOST, -1)
        self.gives(0, "mod", MOST, MOST)
        self.gives(MOST - 1, "mod", -1, MOST)
        self.gives(1 - MOST, "mod", 1, -MOST)

    def test_numbers_beyond_the_range(self):
        self.gives(0, "-", 10 ** 30, 10 ** 30)
        self.gives(10, "div", 10 ** 31, 10 ** 30)
        self.ends("range", "div", 10 ** 31, 1)
        self.ends("range", "mod", 10 ** 30, 10 ** 31)

    def test_div_and_mod(self):
        for a, b, quotient, rest in [(7, 3, 2, 1), (-7, 3, -3, 2), (7, -3, -3, -2), (-7, -3, 2, -1), (6, 3, 2, 0),
                                     (-6, 3, -2, 0), (6, -3, -2, 0), (0, 5, 0, 0), (0, -5, 0, 0), (1, 2, 0, 1),
                                     (-1, 2, -1, 1), (1, -2, -1, -1), (-1, -2, 0, -1)]:
            self.gives(quotient, "div", a, b)
            self.gives(rest, "mod", a, b)
            self.assertEqual(a - b * quotient, rest)

    def test_division_by_nothing(self):
        for a in (0, 1, -1, MOST):
            self.ends("division", "div", a, 0)
            self.ends("division", "mod", a, 0)

    def test_comparisons(self):
        for a in (-MOST, -1, 0, 1, MOST):
            for b in (-MOST, -1, 0, 1, MOST):
                self.gives(a == b, "==", a, b)
                self.gives(a < b, "<", a, b)
                self.gives(a <= b, "<=", a, b)


class FunctionsTest(unittest.TestCase):
    def setUp(self):
        self.facts = Facts(
            signers=[3, 5], own=OWN, mint=[((OWN, 2), 7), (("p", 2), 9), ((OWN, 3), -4), (COIN, 6)],
            spent=[((1, 0), ("key", 1), Bundle(), ()), ((2, 7), ("key", 1), Bundle(), ())],
            looked=[((8, 8), ("key", 1), Bundle(), ())], made=[(None, ("key", 1), Bundle(), ())])

    def gives(self, value, name, *values):
        given = list(values)
        self.assertEqual(call_function(name, given, self.facts), ("value", value), name)
        self.assertEqual(given, list(values))

    def ends(self, ending, name, *values):
        self.assertEqual(call_function(name, list(values), self.facts), (ending, None), name)

    def test_pairs(self):
        for a, b in [(1, True), (listed(), ("pair", 1, 2)), (output(), False)]:
            self.gives(a, "first", ("pair", a, b))
            self.gives(b, "second", ("pair", a, b))

    def test_lists(self):
        self.gives(0, "count", listed())
        self.gives(1, "count", listed(listed()))
        self.gives(8, "count", listed(*range(8)))
        self.gives(4, "head", listed(4))
        self.gives(4, "head", listed(4, 5, 6))
        self.gives(listed(), "tail", listed(4))
        self.gives(listed(5, 6), "tail", listed(4, 5, 6))
        self.gives(listed(1), "head", listed(listed(1), listed()))

    def test_the_empty_list(self):
        self.ends("missing", "head", listed())
        self.ends("missing", "tail", listed())
        for index in (-1, 0, 1):
            self.ends("missing", "item", listed(), index)

    def test_item(self):
        items = listed(4, 5, 6)
        for index, value in enumerate((4, 5, 6)):
            self.gives(value, "item", items, index)
        for index in (-MOST, -3, -1, 3, 4, MOST):
            self.ends("missing", "item", items, index)

    def test_coin(self):
        self.gives(12, "coin", output(rows=[(COIN, 12), (("p", 0), 3)]))
        self.gives(0, "coin", output(rows=[(("p", 0), 3)]))
        self.gives(-2, "coin", output(rows=[(COIN, -2)]))

    def test_held(self):
        guarded = output(rows=[(COIN, 12), ((OWN, 0), 3), ((OWN, 2), -1), (("p", 1), 5)])
        self.gives(3, "held", guarded, 0)
        self.gives(-1, "held", guarded, 2)
        for name in (1, -1, MOST, -MOST):
            self.gives(0, "held", guarded, name)

    def test_held_where_own_is_empty(self):
        self.assertEqual(call_function("held", [output(rows=[(COIN, 4)]), 0], Facts()), ("value", 4))

    def test_minted(self):
        self.gives(7, "minted", 2)
        self.gives(-4, "minted", 3)
        for name in (0, 1, -2, MOST):
            self.gives(0, "minted", name)

    def test_quantities_beyond_the_range(self):
        for quantity in (MOST, -MOST):
            self.gives(quantity, "coin", output(rows=[(COIN, quantity)]))
            self.gives(quantity, "held", output(rows=[((OWN, 1), quantity)]), 1)
            facts = Facts(own=OWN, mint=[((OWN, 1), quantity)])
            self.assertEqual(call_function("minted", [1], facts), ("value", quantity))
        for quantity in (MOST + 1, -MOST - 1, 10 ** 50):
            self.ends("range", "coin", output(rows=[(COIN, quantity)]))
            self.ends("range", "held", output(rows=[((OWN, 1), quantity)]), 1)
            facts = Facts(own=OWN, mint=[((OWN, 1), quantity)])
            self.assertEqual(call_function("minted", [1], facts), ("range", None))
            self.assertEqual(call_function("minted", [2], facts), ("value", 0))

    def test_data(self):
        self.gives(listed(), "data", output())
        self.gives(listed(4, -5), "data", output(datum=[4, -5]))

    def test_keyed_and_homed(self):
        self.gives(True, "keyed", output(("key", 4)), 4)
        self.gives(False, "keyed", output(("key", 4)), 5)
        self.gives(False, "keyed", output(("script", OWN)), 4)
        self.gives(False, "keyed", output(("script", "4")), 4)
        self.gives(True, "homed", output(("script", OWN)))
        self.gives(False, "homed", output(("script", OWN + " ")))
        self.gives(False, "homed", output(("key", 4)))

    def test_signed(self):
        for key, signs in [(3, True), (5, True), (4, False), (0, False), (-3, False)]:
            self.gives(signs, "signed", key)

    def test_spends(self):
        for number, index, spent in [(1, 0, True), (2, 7, True), (1, 7, False), (2, 0, False), (0, 1, False),
                                     (8, 8, False), (-1, 0, False)]:
            self.gives(spent, "spends", number, index)

    def test_answers_are_truths(self):
        for name, values in [("signed", [3]), ("spends", [1, 0]), ("keyed", [output(), 1]),
                             ("homed", [output(("script", OWN))])]:
            self.assertIs(call_function(name, values, self.facts)[1], True)

    def test_every_function(self):
        samples = {"first": [("pair", 1, 2)], "second": [("pair", 1, 2)], "count": [listed()], "head": [listed(1)],
                   "tail": [listed(1)], "item": [listed(1), 0], "coin": [output()], "held": [output(), 1],
                   "data": [output()], "keyed": [output(), 1], "homed": [output()], "minted": [1], "signed": [1],
                   "spends": [1, 1]}
        self.assertEqual(sorted(samples), sorted(FUNCTIONS))
        for name, values in samples.items():
            self.assertEqual(len(values), FUNCTIONS[name])
            self.assertEqual(call_function(name, values, self.facts)[0], "value")


class FactWordsTest(unittest.TestCase):
    def test_words(self):
        rows = [((1, n), ("key", n), Bundle.of_coin(n), (n,)) for n in range(6)]
        facts = Facts(begins=4, ends=9, signers=[8, 2, 8], spent=rows[:2], looked=rows[2:3], made=rows[3:][::-1],
                      here=rows[1], datum=[5, 1], redeemer=[-6])
        expected = {
            "begins": 4, "ends": 9, "signers": listed(8, 2, 8), "datum": listed(5, 1), "redeemer": listed(-6),
            "spent": listed(("output", rows[0]), ("output", rows[1])), "looked": listed(("output", rows[2])),
            "made": listed(("output", rows[5]), ("output", rows[4]), ("output", rows[3])),
            "here": ("output", rows[1]), "guarding": True,
        }
        self.assertEqual(sorted(expected), sorted(FACTS))
        for word, value in expected.items():
            self.assertEqual(fact_value(word, facts), ("value", value), word)
        self.assertIs(fact_value("guarding", facts)[1], True)

    def test_words_of_empty_facts(self):
        for word in ("signers", "spent", "looked", "made", "datum", "redeemer"):
            self.assertEqual(fact_value(word, Facts()), ("value", listed()))
        for word in ("begins", "ends"):
            self.assertEqual(fact_value(word, Facts()), ("value", 0))
        self.assertEqual(fact_value("here", Facts()), ("nowhere", None))
        self.assertEqual(fact_value("guarding", Facts()), ("value", False))
        self.assertIs(fact_value("guarding", Facts())[1], False)


if __name__ == "__main__":
    unittest.main()
