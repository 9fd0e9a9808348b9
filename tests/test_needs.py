"""keptcoin/rules/needs.py (9.1, 9.2, and the steps of rule 9 in 9.3)."""

import unittest

from keptcoin.amounts.bundle import Bundle
from keptcoin.errors import BadLock
from keptcoin.rules.needs import facts_of, purposes, script_steps, script_text
from keptcoin.scripts.bounds import step_bound
from keptcoin.scripts.reader import read_script
from keptcoin.state.state import State
from tests.helpers import Checks
from tests.ledger import key_output, script_output, some_tx

COIN = ("", 0)
LATE, SIGNED = "begins < 5", "signed(7)"


def some_state():
    """A state with outputs at (5, 0) to (5, 5)."""
    state = State([(3, 50), (4, 60)], 7)
    for at, output in enumerate([
        script_output(LATE, 9, (("p", 1), 4), datum=[1, 2]), key_output(7, 8), script_output(SIGNED, 5),
        script_output(LATE, 3, datum=[6]), script_output("no script", 3), script_output("begins", 3),
    ]):
        state.add_output((5, at), output)
    return state


class PurposesTest(unittest.TestCase):
    def setUp(self):
        self.state = some_state()

    def needs(self, expected, **fields):
        self.assertEqual(purposes(self.state, some_tx(**fields)), expected)

    def test_none(self):
        self.needs([])
        self.needs([], spends=[(0, 0), (5, 1)])
        self.assertIsInstance(purposes(self.state, some_tx()), list)

    def test_spends_in_their_order(self):
        self.needs([("spend", (5, 0))], spends=[(5, 0)])
        self.needs([("spend", (5, 2)), ("spend", (5, 0))], spends=[(5, 2), (0, 0), (5, 0), (5, 1)])
        self.needs([("spend", (5, 3)), ("spend", (5, 0))], spends=[(5, 3), (5, 0)])

    def test_other_fields_need_nothing(self):
        self.needs([], looks=[(5, 0)], pledge=[(5, 2)], makes=[script_output(LATE, 9)], data=[(("spend", (5, 0)), [])])

    def test_policies_ascend(self):
        self.needs([("mint", "B"), ("mint", "a"), ("mint", "ab"), ("mint", "b")],
                   mint=[(("b", 2), 1), (("a", 9), -3), (("B", 1), 7), (("ab", 1), 2), (("a", 1), 4), (("b", 1), -5)])
        self.needs([("mint", "p")], mint=[(("p", 1), -4)])
        self.needs([], mint=[(("p", 1), 4), (("p", 1), -4)])

    def test_spends_come_before_policies(self):
        self.needs([("spend", (5, 2)), ("spend", (5, 0)), ("mint", LATE)], spends=[(5, 2), (5, 0)],
                   mint=[((LATE, 1), 1)])

    def test_made_assets_need_nothing(self):
        self.needs([], makes=[key_output(1, 9, (("p", 1), 1))])

    def test_texts(self):
        self.assertEqual(script_text(self.state, ("spend", (5, 0))), LATE)
        self.assertEqual(script_text(self.state, ("spend", (5, 4))), "no script")
        self.assertEqual(script_text(self.state, ("mint", SIGNED)), SIGNED)
        self.assertEqual(script_text(self.state, ("mint", "no script")), "no script")


class FactsTest(unittest.TestCase):
    def setUp(self):
        self.state = some_state()
        self.fields = {
            "number": 8, "spends": [(5, 3), (0, 0), (5, 0)], "looks": [(5, 2), (5, 1)], "pledge": [(0, 1)],
            "makes": [key_output(2, 9, datum=[3]), script_output("x", 8, (("q", 1), 4))],
            "mint": [((LATE, 1), 5), (("q", 1), -2)], "fee": 12, "begins": 2, "ends": 9, "signers": [7, 3],
            "data": [(("mint", LATE), [8]), (("spend", (5, 0)), [4, 5]), (("spend", (5, 3)), [])],
        }

    def facts(self, purpose, **fields):
        return facts_of(self.state, some_tx(**{**self.fields, **fields}), purpose)

    def plain(self, facts):
        """The attributes of facts with rows of bundles in the places of bundles."""
        def row(one):
            return None if one is None else (*one[:2], one[2].rows, one[3])

        found = dict(vars(facts))
        for name in ("spent", "looked", "made"):
            found[name] = tuple([row(one) for one in found[name]])
        found["here"] = row(found["here"])
        found["mint"] = found["mint"].rows
        return found

    def expected(self, **more):
        first = ((5, 3), ("script", LATE), ((COIN, 3),), (6,))
        last = ((5, 0), ("script", LATE), ((COIN, 9), (("p", 1), 4)), (1, 2))
        return {
            "begins": 2, "ends": 9, "signers": (7, 3), "spent": (first, ((0, 0), ("key", 3), ((COIN, 50),), ()), last),
            "looked": (((5, 2), ("script", SIGNED), ((COIN, 5),), ()), ((5, 1), ("key", 7), ((COIN, 8),), ())),
            "made": ((None, ("key", 2), ((COIN, 9),), (3,)), (None, ("script", "x"), ((COIN, 8), (("q", 1), 4)), ())),
            "mint": (((LATE, 1), 5), (("q", 1), -2)), **more,
        }

    def test_spend_with_data(self):
        expected = self.expected(own=LATE, here=self.expected()["spent"][2], datum=(1, 2), redeemer=(4, 5))
        self.assertEqual(self.plain(self.facts(("spend", (5, 0)))), expected)

    def test_spend_with_empty_data(self):
        expected = self.expected(own=LATE, here=self.expected()["spent"][0], datum=(6,), redeemer=())
        self.assertEqual(self.plain(self.facts(("spend", (5, 3)))), expected)

    def test_spend_without_data(self):
        expected = self.expected(own=LATE, here=self.expected()["spent"][0], datum=(6,), redeemer=())
        self.assertEqual(self.plain(self.facts(("spend", (5, 3)), data=[])), expected)

    def test_mint_with_data(self):
        expected = self.expected(own=LATE, here=None, datum=(), redeemer=(8,))
        self.assertEqual(self.plain(self.facts(("mint", LATE))), expected)

    def test_mint_without_data(self):
        expected = self.expected(own="q", here=None, datum=(), redeemer=())
        self.assertEqual(self.plain(self.facts(("mint", "q"))), expected)

    def test_kinds(self):
        facts = self.facts(("spend", (5, 0)))
        self.assertIsInstance(facts.mint, Bundle)
        for row in (*facts.spent, *facts.looked, *facts.made, facts.here):
            self.assertIsInstance(row, tuple)
            self.assertIsInstance(row[2], Bundle)

    def test_what_facts_do_not_depend_on(self):
        for purpose in (("spend", (5, 0)), ("mint", LATE)):
            before = self.plain(self.facts(purpose))
            self.assertEqual(self.plain(self.facts(purpose, number=99, fee=1, pledge=[], approved=False)), before)
            self.state.set_clock(77, 7)
            self.assertEqual(self.plain(self.facts(purpose)), before)

    def test_empty_fields(self):
        facts = facts_of(self.state, some_tx(spends=[(5, 2)]), ("spend", (5, 2)))
        row = ((5, 2), ("script", SIGNED), ((COIN, 5),), ())
        self.assertEqual(self.plain(facts), {
            "begins": 0, "ends": 10 ** 9, "signers": (), "spent": (row,), "looked": (), "made": (), "mint": (),
            "own": SIGNED, "here": row, "datum": (), "redeemer": ()})


class StepsTest(Checks, unittest.TestCase):
    def setUp(self):
        self.state = some_state()

    def steps(self, expected, **fields):
        self.assertEqual(script_steps(self.state, some_tx(**fields)), expected)

    def test_sums_of_bounds(self):
        self.steps(0)
        self.steps(0, spends=[(0, 0), (5, 1)])
        self.steps(3, spends=[(5, 0)])
        self.steps(2, spends=[(5, 2)])
        self.steps(3 + 2 + 3, spends=[(5, 0), (5, 2), (5, 3)])
        self.steps(3 + 2 + 1, spends=[(5, 0), (5, 2)], mint=[(("true", 1), 4), (("true", 2), -4)])

    def test_many(self):
        text = "fold x s in spent from true do s"
        bounds = [step_bound(read_script(text), many) for many in range(9)]
        mint = [((text, 1), 1)]
        refs = [(0, 0), (0, 1), *[(5, at) for at in range(6)]]
        self.steps(bounds[1], mint=mint)
        self.steps(bounds[2], spends=[(0, 0), (0, 1)], mint=mint)
        for many in (2, 5, 8):
            self.steps(bounds[many], looks=refs[:many], mint=mint)
            self.steps(bounds[many], makes=[key_output(1, 9)] * many, mint=mint)
            self.steps(bounds[many], signers=list(range(many)), mint=mint)
        self.steps(bounds[6], looks=refs[:3], signers=list(range(6)), makes=[key_output(1, 9)] * 4, mint=mint)
        # Other fields do not count.
        self.steps(bounds[1], pledge=refs[:4], draws=[(at, 1) for at in range(4)], mint=mint)

    def test_bad_locks(self):
        self.assertRaises(BadLock, script_steps, self.state, some_tx(spends=[(5, 4)]))
        for text, fields in [("no script", {"spends": [(5, 2), (5, 4), (5, 5)]}), ("begins", {"spends": [(5, 5), (5, 4)]}),
                             ("no script", {"spends": [(5, 4)], "mint": [(("1", 1), 1)]}),
                             ("1", {"spends": [(5, 2)], "mint": [(("1", 1), 1), (("2", 1), 1)]}),
                             ("1 + true", {"mint": [(("1 + true", 1), 1)]})]:
            self.fails(BadLock, text, script_steps, self.state, some_tx(**fields))

    def test_nothing_is_modified(self):
        picture, mark = self.state.picture(), self.state.mark()
        tx = some_tx(spends=[(5, 0)], mint=[((SIGNED, 1), 1)])
        before = tx.picture()
        for purpose in purposes(self.state, tx):
            facts_of(self.state, tx, purpose)
        script_steps(self.state, tx)
        self.assertEqual((self.state.picture(), self.state.mark(), tx.picture()), (picture, mark, before))


if __name__ == "__main__":
    unittest.main()
