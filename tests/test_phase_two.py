"""keptcoin/rules/phase_two.py (9.4)."""

import unittest

from keptcoin.rules.needs import facts_of, purposes, script_text
from keptcoin.rules.phase_two import is_approved, verdicts
from keptcoin.scripts.script import Script
from keptcoin.state.state import State
from tests.ledger import key_output, script_output, some_tx

# Texts whose verdict hangs on nothing but the purpose, with that verdict.
ENDINGS = [
    ("true", True), ("false", False), ("true and fail", "fail"), ("1 div 0 == 1", "division"), ("1 mod (2 - 2) == 1", "division"),
    ("1000000000000000 + 1 == 1", "range"), ("head([]) == 1", "missing"), ("item([1], 1) == 1", "missing"),
    ("count(tail([])) == 1", "missing"), ("1 == 1 or fail", True), ("fail or true", "fail"),
    ("not (note 5 then false)", True),
]


class VerdictsTest(unittest.TestCase):
    def setUp(self):
        self.state = State([(7, 500), (8, 40)], 0)
        for at, (text, verdict) in enumerate(ENDINGS):
            self.state.add_output((5, at), script_output(text, 10, (("p", 1), 4), datum=[at, 3]))

    def told(self, expected, **fields):
        """The verdicts of a transaction, in the order of its purposes."""
        tx = some_tx(**fields)
        before, mark, picture = self.state.picture(), self.state.mark(), tx.picture()
        found = verdicts(self.state, tx)
        self.assertIsInstance(found, list)
        self.assertEqual([purpose for purpose, _ in found], purposes(self.state, tx))
        for row, verdict in zip(found, expected, strict=True):
            self.assertIsInstance(row, tuple)
            self.assertEqual(len(row), 2)
            self.assertIs(row[1].__class__, verdict.__class__)
            self.assertEqual(row[1], verdict)
        self.assertIs(is_approved(self.state, tx), all([verdict is True for verdict in expected]))
        self.assertEqual((self.state.picture(), self.state.mark(), tx.picture()), (before, mark, picture))

    def guarded(self, text, datum=(), *rows):
        """The fields of a transaction that spends an output with this text."""
        self.state.add_output((6, len(self.state.unspent())), script_output(text, 30, *rows, datum=datum))
        return {"spends": [self.state.books.refs_of(("script", text))[-1]]}

    def test_no_purpose(self):
        self.told([])
        self.told([], looks=[(5, 1), (5, 2)], pledge=[(5, 1)], signers=[7], approved=False)

    def test_each_ending_of_a_spend(self):
        for at, (text, verdict) in enumerate(ENDINGS):
            self.told([verdict], spends=[(5, at)])

    def test_each_ending_of_a_mint(self):
        for text, verdict in ENDINGS:
            self.told([verdict], mint=[((text, 1), 5)])
            self.told([verdict], mint=[((text, 1), -5), ((text, 2), 5)])

    def test_nowhere(self):
        self.told(["nowhere"], mint=[(("coin(here) == 30", 1), 5)])
        self.told([True], **self.guarded("coin(here) == 30"))

    def test_several_purposes(self):
        self.told([False, True], spends=[(5, 1), (0, 0), (5, 0)])
        self.told([True, False], spends=[(5, 0), (5, 1)])
        self.told([True, True], spends=[(5, 9), (5, 0)])
        self.told([True, "fail", "division", "fail", False, True], spends=[(5, 0), (5, 2), (5, 3)],
                  mint=[(("true", 1), 1), (("fail or true", 1), 1), (("false", 3), 1)])
        self.told([True] * 8, spends=[(0, 0), (5, 0)], mint=[((f"{n} == {n}", 1), 1) for n in range(7)])

    def test_order_of_purposes(self):
        tx = some_tx(spends=[(5, 1), (5, 0)], mint=[(("true", 2), 4), (("fail or true", 1), 4)])
        self.assertEqual(verdicts(self.state, tx), [
            (("spend", (5, 1)), False), (("spend", (5, 0)), True), (("mint", "fail or true"), "fail"), (("mint", "true"), True)])

    def test_begins_and_ends(self):
        fields = self.guarded("5 <= begins and ends < 9")
        self.told([True], begins=5, ends=8, **fields)
        self.told([False], begins=4, ends=8, **fields)
        self.told([False], begins=5, ends=9, **fields)
        self.told([False], **fields)

    def test_signers(self):
        fields = self.guarded("signed(7) and count(signers) == 2")
        self.told([True], signers=[9, 7], **fields)
        self.told([False], signers=[9, 8], **fields)
        self.told([False], signers=[7], **fields)
        self.told([True], signers=[7, 9], **self.guarded("head(signers) == 7"))

    def test_outputs(self):
        for word, field in [("spent", "spends"), ("looked", "looks")]:
            text = f"count({word}) == 3 and coin(item({word}, 2)) == 500 and keyed(item({word}, 2), 7)" \
                   f" and head(tail(data(item({word}, 1)))) == 3"
            mint = [((text, 1), 5)]
            others = {} if field == "spends" else {"spends": [(0, 1)]}
            found = [True] if field == "looks" else [False, "fail", True]
            self.told(found, mint=mint, **{**others, field: [(5, 1), (5, 2), (0, 0)]})
            found[-1] = False
            self.told(found, mint=mint, **{**others, field: [(5, 1), (5, 2), (0, 1)]})
        text = "count(made) == 2 and coin(item(made, 1)) == 12 and head(data(head(made))) == 6"
        self.told([True], mint=[((text, 1), 5)], makes=[key_output(4, 9, datum=[6]), key_output(4, 12)])
        self.told([False], mint=[((text, 1), 5)], makes=[key_output(4, 9, datum=[5]), key_output(4, 12)])
        self.told(["missing"], mint=[((text, 1), 5)], makes=[key_output(4, 9), key_output(4, 12)])

    def test_references(self):
        self.told([True, True], spends=[(0, 0), (5, 0)], mint=[(("spends(5, 0)", 1), 5)])
        self.told([True, False], spends=[(0, 0), (5, 0)], looks=[(5, 1)], mint=[(("spends(5, 1)", 1), 5)])
        text = "fold x s in made from false do s or spends(0, 1)"
        self.told([False], makes=[key_output(1, 9)], mint=[((text, 1), 5)])

    def test_mint_and_own_assets(self):
        text = "minted(1) == 5 and minted(2) == 0 - 3 and minted(3) == 0"
        self.told([True], mint=[((text, 1), 5), ((text, 2), -3)])
        self.told([True, True], mint=[((text, 1), 5), ((text, 2), -3), (("true", 3), 7)])
        self.told([False], mint=[((text, 1), 5), ((text, 2), -3), ((text, 3), 7)])
        text = "homed(here) and held(here, 4) == 9"
        self.told([True], **self.guarded(text, (), ((text, 4), 9)))
        self.told([False], **self.guarded(text, (), ((text, 4), 8)))
        self.told([False], **self.guarded(text, (), (("p", 4), 9)))

    def test_datum_and_redeemer(self):
        text = "head(datum) + head(redeemer) == 10 and head(data(here)) == head(datum)"
        fields = self.guarded(text, [4])
        purpose = ("spend", fields["spends"][0])
        self.told([True], data=[(purpose, [6])], **fields)
        self.told([False], data=[(purpose, [7])], **fields)
        self.told([True], data=[(("mint", text), [7]), (purpose, [6])], **fields)
        self.told(["missing"], data=[(purpose, [])], **fields)
        self.told(["missing"], **fields)
        self.told(["missing"], data=[(purpose, [6])], **self.guarded(text))
        text = "count(datum) == 0 and not guarding and head(redeemer) == 3"
        self.told([True], mint=[((text, 1), 5)], data=[(("mint", text), [3, 9])])
        self.told(["missing"], mint=[((text, 1), 5)], data=[(("spend", (0, 0)), [3])])

    def test_guarding(self):
        self.told([True], **self.guarded("guarding"))
        self.told([False], mint=[(("guarding", 1), 5)])
        fields = self.guarded("coin(here) == 30 and head(datum) == 2", [2])
        self.told([False, True], **{**fields, "spends": [(5, 1), *fields["spends"]]})

    def test_same_text_for_several_purposes(self):
        text = "not guarding or head(datum) == 1 and head(redeemer) == 2"
        first, second = [self.guarded(text, [n])["spends"][0] for n in (1, 2)]
        self.told([True, False, True], spends=[first, second], mint=[((text, 1), 5)],
                  data=[(("spend", first), [2]), (("spend", second), [2])])
        self.told([False, False, True], spends=[second, first], mint=[((text, 1), 5)],
                  data=[(("spend", first), [3]), (("spend", second), [2])])

    def test_what_verdicts_do_not_hang_on(self):
        texts = ["spends(5, 0) and signed(7)", "head(datum) == 1", "minted(0) < 3", "count(looked) == 1 and fail"]
        for at, text in enumerate(texts):
            self.state.add_output((9, at), script_output(text, 20, datum=[at]))
        fields = {"spends": [(5, 0), *[(9, at) for at in range(4)]], "looks": [(0, 1)], "signers": [7], "begins": 3,
                  "makes": [key_output(2, 9)], "mint": [((texts[2], 0), 2)], "data": [(("spend", (9, 1)), [5])]}
        expected = verdicts(self.state, some_tx(**fields))
        self.assertEqual([verdict for _, verdict in expected], [True, True, True, True, "fail", True])
        for more in ({"number": 99}, {"fee": 10 ** 12}, {"approved": False}, {"pledge": [(0, 0), (0, 1)]},
                     {"deeds": [("join", 5)], "draws": [(5, 7)]}):
            self.assertEqual(verdicts(self.state, some_tx(**{**fields, **more})), expected)
        other = State([(1, 2), (8, 40), (9, 9)], 77)
        for ref in fields["spends"]:
            other.add_output(ref, self.state.output(ref))
        other.set_clock(88, 8)
        other.set_account(7, (5, 6))
        other.use(1)
        self.assertEqual(verdicts(other, some_tx(**fields)), expected)

    def test_verdicts_are_those_of_the_evaluation(self):
        for at in range(len(ENDINGS)):
            tx = some_tx(spends=[(5, at), (0, 0)], signers=[1, 2, 3], mint=[(("count(signers) == 3", 1), 2)])
            for purpose, verdict in verdicts(self.state, tx):
                script = Script(script_text(self.state, purpose))
                self.assertEqual(script.plain_verdict(facts_of(self.state, tx, purpose)), verdict)

    def test_budget_is_enough(self):
        # The folds go through as many items as there can be.
        text = "fold x s in signers from 0 do fold y t in signers from s do t + 1"
        signers = list(range(8))
        self.told([True], mint=[((f"({text}) == 64", 1), 1)], signers=signers)
        self.told([True], mint=[((f"({text}) == 0", 1), 1)], signers=[])

    def test_many_purposes(self):
        refs = [(5, at) for at in (0, 9, 1, 2, 3, 4, 5, 6)]
        mint = [((text, 1), 1) for text, _ in ENDINGS[:8]]
        texts = sorted([text for text, _ in ENDINGS[:8]])
        self.told([ENDINGS[at][1] for _, at in refs] + [dict(ENDINGS)[text] for text in texts], spends=refs, mint=mint)


if __name__ == "__main__":
    unittest.main()
