"""keptcoin/scripts/facts.py (4.1, 4.2)."""

import unittest

from keptcoin.amounts.assets import COIN
from keptcoin.amounts.bundle import Bundle
from keptcoin.errors import BadFacts
from keptcoin.scripts.facts import Facts
from tests.helpers import Checks

MOST = 10 ** 15
FIELDS = ["begins", "ends", "signers", "spent", "looked", "made", "here", "datum", "redeemer"]
BUNDLE = Bundle([(COIN, 5)])


def row(datum=(), n=0):
    return ((1, n), ("key", 4), BUNDLE, datum)


def broken(field):
    """A value with which the field breaks a limit."""
    if field in ("begins", "ends"):
        return MOST + 1
    if field in ("signers", "datum", "redeemer"):
        return [0] * 9
    return row([MOST + 1]) if field == "here" else [row([MOST + 1])]


class FactsTest(Checks, unittest.TestCase):
    def test_what_is_left_out(self):
        facts = Facts()
        self.assertEqual((facts.begins, facts.ends, facts.own, facts.here), (0, 0, "", None))
        for field in ("signers", "spent", "looked", "made", "datum", "redeemer"):
            self.assertEqual(getattr(facts, field), ())
        self.assertEqual(facts.mint, Bundle())
        self.assertEqual(facts.many, 0)

    def test_what_is_kept(self):
        facts = Facts(begins=3, ends=-4, signers=[7, 5], spent=[row([1]), row((2, 3))], looked=(row(),),
                      made=[(None, ("script", "1"), BUNDLE, [4])], mint=[(("p", 1), 3), (("p", 1), -1)], own="true",
                      here=row([9, 8]), datum=[1, 2], redeemer=(3,))
        self.assertEqual((facts.begins, facts.ends, facts.own), (3, -4, "true"))
        self.assertEqual(facts.signers, (7, 5))
        self.assertEqual(facts.spent, (row((1,)), row((2, 3))))
        self.assertEqual(facts.looked, (row(()),))
        self.assertEqual(facts.made, ((None, ("script", "1"), BUNDLE, (4,)),))
        self.assertEqual(facts.here, row((9, 8)))
        self.assertEqual((facts.datum, facts.redeemer), ((1, 2), (3,)))
        self.assertIsInstance(facts.mint, Bundle)
        self.assertEqual(facts.mint.rows, ((("p", 1), 2),))
        for kept in (facts.signers, facts.spent, facts.looked, facts.made, facts.datum, facts.redeemer,
                     facts.spent[0], facts.spent[0][3], facts.here[3], facts.made[0][3]):
            self.assertIsInstance(kept, tuple)

    def test_mint_may_be_a_bundle(self):
        self.assertEqual(Facts(mint=BUNDLE).mint, BUNDLE)

    def test_lists_changed_later(self):
        signers, datum, redeemer, inner, mint = [1], [2], [3], [4], [(("p", 1), 5)]
        spent, looked, made = [row(inner)], [row(inner)], [row(inner)]
        facts = Facts(signers=signers, spent=spent, looked=looked, made=made, mint=mint, here=row(inner), datum=datum,
                      redeemer=redeemer)
        for values in (signers, datum, redeemer, inner, spent, looked, made, mint):
            values.clear()
        self.assertEqual((facts.signers, facts.datum, facts.redeemer), ((1,), (2,), (3,)))
        for rows in (facts.spent, facts.looked, facts.made, (facts.here,)):
            self.assertEqual(rows, (row((4,)),))
        self.assertEqual(facts.mint.rows, ((("p", 1), 5),))

    def test_range(self):
        for number in (-MOST, MOST, 0):
            Facts(begins=number, ends=number, signers=[number], spent=[row([number])], looked=[row([number])],
                  made=[row([number])], here=row([number]), datum=[number], redeemer=[number])
        for number in (-MOST - 1, MOST + 1, 10 ** 39):
            for field in FIELDS:
                with self.subTest(field=field, number=number):
                    self.fails(BadFacts, field, Facts, **{field: self.with_number(field, number)})

    def with_number(self, field, number):
        if field in ("begins", "ends"):
            return number
        if field in ("signers", "datum", "redeemer"):
            return [0, number]
        return row([0, number]) if field == "here" else [row(), row([0, number])]

    def test_number_of_items(self):
        for field in FIELDS[2:]:
            if field == "here":
                Facts(here=row([1] * 8))
                self.fails(BadFacts, field, Facts, here=row([1] * 9))
            elif field in ("spent", "looked", "made"):
                Facts(**{field: [row([1] * 8, n) for n in range(8)]})
                self.fails(BadFacts, field, Facts, **{field: [row((), n) for n in range(9)]})
                self.fails(BadFacts, field, Facts, **{field: [row(), row([1] * 9)]})
            else:
                Facts(**{field: [1] * 8})
                self.fails(BadFacts, field, Facts, **{field: [1] * 9})
                self.fails(BadFacts, field, Facts, **{field: (1,) * 9})

    def test_first_broken_field(self):
        for index, field in enumerate(FIELDS):
            for later in FIELDS[index + 1:]:
                self.fails(BadFacts, field, Facts, **{later: broken(later), field: broken(field)})
        self.fails(BadFacts, "begins", Facts, **{field: broken(field) for field in FIELDS[::-1]})

    def test_quantities_have_no_limit(self):
        great = Bundle([(COIN, 10 ** 30), (("p", 1), -10 ** 30)])
        self.assertEqual(Facts(mint=great, spent=[((1, 0), ("key", 1), great, ())]).mint, great)

    def test_many(self):
        rows = [row((), n) for n in range(8)]
        self.assertEqual(Facts(signers=[1, 2, 3]).many, 3)
        self.assertEqual(Facts(spent=rows[:2], looked=rows[:5], made=rows[:4], signers=[1]).many, 5)
        self.assertEqual(Facts(spent=rows[:2]).many, 2)
        self.assertEqual(Facts(made=rows).many, 8)
        self.assertEqual(Facts(datum=[1] * 8, redeemer=[1] * 8, here=row([1] * 8)).many, 0)


if __name__ == "__main__":
    unittest.main()
