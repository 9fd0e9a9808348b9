"""keptcoin/rules/apply.py (9.5, 9.6, and 9.3 and 8.5 for transactions that are applied)."""

import random
import unittest

from keptcoin.errors import (
    BadDraw, BadInterval, BadLock, BadNumber, BadOutput, FeeTooLow, KeptError, NeedlessPledge, NoSpends, NotSigned,
    Repeated, Reused, Unbalanced, UnknownOutput, WrongClaim,
)
from keptcoin.rules.apply import apply_transaction
from keptcoin.rules.phase_one import difference
from keptcoin.rules.phase_two import is_approved, verdicts
from keptcoin.state.state import State
from keptcoin.tx.params import Params
from keptcoin.tx.transaction import Transaction
from tests import test_phase_one
from tests.helpers import Checks
from tests.ledger import key_output, script_output, some_tx
from tests.model import Model, added

COIN = ("", 0)
PARAMS = Params()
FAILS = "true and fail"


def claiming(tx, approved):
    """The same transaction with this claim."""
    fields = vars(tx)
    return Transaction(**{**fields, "approved": approved})


class ExamineByApplyingTest(test_phase_one.ExamineTest):
    """All rules of the first phase once more: what they refuse is not applied, and what they let pass is."""

    def call(self, tx, params):
        return apply_transaction(self.state, tx, params)

    def good(self, steps, params=PARAMS, **fields):
        tx = self.tx(params, **fields)
        approved = is_approved(self.state, tx)
        self.fails(WrongClaim, tuple(verdicts(self.state, tx)), self.call, claiming(tx, not approved), params)
        self.assertEqual((self.state.picture(), self.state.mark()), (self.picture, self.mark))
        model = Model.of_state(self.state)
        model.apply(claiming(tx, approved).picture(), params)
        self.assertIs(self.call(claiming(tx, approved), params), approved)
        self.assertEqual(self.state.picture(), model.picture())
        self.state.rewind(self.mark)

    def test_refused_with_both_claims(self):
        for approved in (True, False):
            self.bad(Reused, 77, number=77, approved=approved)
            self.bad(NotSigned, 1, **self.guarded((5, 0), begins=9, signers=[2], approved=approved))
            self.bad(BadLock, "1", pledge=[(0, 0)], mint=[(("1", 1), 1)], data=[(("mint", "1"), [])], approved=approved)
            self.bad(NeedlessPledge, None, pledge=[(0, 0)], approved=approved)
            self.bad(Unbalanced, ((COIN, 5),), rest=5, **self.guarded((5, 0), begins=9, approved=approved))
            self.bad(UnknownOutput, (9, 9), looks=[(9, 9)], approved=approved)

    def test_one_output_in_three_fields(self):
        # A reference may not be spent and looked at, but it may be pledged beside either.
        tx = self.tx(**self.guarded((5, 0), looks=[(0, 3)], pledge=[(0, 3), (0, 0)]))
        model = Model.of_state(self.state)
        model.apply(tx.picture(), PARAMS)
        self.assertIs(self.call(tx, PARAMS), True)
        self.assertEqual(self.state.picture(), model.picture())
        self.state.rewind(self.mark)
        self.fails(Repeated, (0, 0), self.call, some_tx(spends=[(0, 0)], looks=[(0, 0)], pledge=[(0, 0)]), PARAMS)
        for looks, pledge, what in [([(0, 9)], [(0, 9)], (0, 9)), ([(0, 3)], [(0, 9), (0, 8)], (0, 9))]:
            tx = some_tx(spends=[(0, 0)], looks=looks, pledge=pledge, signers=[1])
            self.fails(UnknownOutput, what, self.call, tx, PARAMS)

    def test_keys_that_join_leave_and_draw(self):
        self.good(0, signers=[1, 4, 6, 8], deeds=[("leave", 4), ("join", 8), ("leave", 6)], draws=[(4, 30)])
        self.good(0, signers=[1, 4], draws=[(4, 1)])
        self.good(0, signers=[1, 4, 6], deeds=[("leave", 6)], draws=[(4, 29)])
        tx = some_tx(signers=[1, 4], deeds=[("leave", 4), ("join", 4)], draws=[(4, 30)])
        self.fails(Repeated, 4, self.call, tx, PARAMS)


class ApprovedTest(Checks, unittest.TestCase):
    def setUp(self):
        self.state = State([(1, 1000), (2, 500), (3, 60)], 70)
        self.state.add_output((5, 0), script_output("true", 90, (("p", 1), 4), datum=[1]))
        self.state.add_output((5, 1), script_output("head(redeemer) == 1", 80))
        self.state.add_output((5, 2), script_output(FAILS, 30))
        self.state.set_account(4, (25, 30))
        self.state.set_account(6, (20, 0))
        self.state.set_pot("fees", 11)
        self.state.set_pot("treasury", 3)
        self.state.set_clock(50, 5)
        self.state.use(5)

    def tx(self, **fields):
        """A transaction that gives what is left back to key 1."""
        fields = {"number": 8, "spends": [(0, 0)], "signers": [1], "fee": 100, **fields}
        made = list(fields.get("makes", []))
        left = difference(self.state, some_tx(**{**fields, "makes": made}), PARAMS)
        return some_tx(**{**fields, "makes": [*made, key_output(1, left.coin, *left.tokens().rows)]})

    def applied(self, tx, params=PARAMS):
        """Applies a transaction whose claim is right; the state has to be that of the model and keep its total."""
        model, before, picture = Model.of_state(self.state), self.state.total().rows, tx.picture()
        model.apply(picture, params)
        self.assertIs(apply_transaction(self.state, tx, params), tx.approved)
        self.assertEqual(self.state.picture(), model.picture())
        self.assertEqual(self.state.total().rows, model.total())
        self.assertEqual(self.state.total().rows, added(before, tx.mint.rows if tx.approved else ()))
        self.assertEqual(tx.picture(), picture)

    def refused(self, error, what, tx, params=PARAMS):
        before, mark, picture = self.state.picture(), self.state.mark(), tx.picture()
        self.fails(error, what, apply_transaction, self.state, tx, params)
        self.assertEqual((self.state.picture(), self.state.mark(), tx.picture()), (before, mark, picture))

    def test_outputs(self):
        self.applied(self.tx(makes=[key_output(9, 20, datum=[5]), script_output(FAILS, 300)], spends=[(0, 0), (0, 1)],
                             signers=[1, 2]))
        self.assertEqual(self.state.unspent(), [(0, 2), (5, 0), (5, 1), (5, 2), (8, 0), (8, 1), (8, 2)])
        self.assertEqual(self.state.output((8, 0)).picture(), (("key", 9), ((COIN, 20),), (5,)))
        self.assertEqual(self.state.output((8, 1)).picture(), (("script", FAILS), ((COIN, 300),), ()))
        self.assertEqual(self.state.output((8, 2)).picture(), (("key", 1), ((COIN, 1080),), ()))
        self.assertEqual(self.state.fees, 111)
        self.assertTrue(self.state.is_used(8))

    def test_nothing_made(self):
        self.applied(some_tx(number=8, spends=[(0, 2)], fee=60, signers=[3]))
        self.assertEqual(self.state.unspent(), [(0, 0), (0, 1), (5, 0), (5, 1), (5, 2)])
        self.assertEqual(self.state.fees, 71)

    def test_draws(self):
        self.applied(self.tx(signers=[1, 4], draws=[(4, 12)]))
        self.assertEqual(self.state.account(4), (25, 18))
        self.assertEqual(self.state.output((8, 0)).bundle.coin, 912)

    def test_joins(self):
        self.applied(self.tx(signers=[1, 7, 9], deeds=[("join", 9), ("join", 7)]), Params())
        self.assertEqual((self.state.account(9), self.state.account(7)), ((20, 0), (20, 0)))
        self.assertEqual(self.state.keys_joined(), [4, 6, 7, 9])
        self.assertEqual(self.state.output((8, 0)).bundle.coin, 860)

    def test_leaves(self):
        self.applied(self.tx(signers=[1, 4, 6], deeds=[("leave", 6), ("leave", 4)], draws=[(4, 30)]))
        self.assertEqual(self.state.keys_joined(), [])
        self.assertEqual(self.state.output((8, 0)).bundle.coin, 900 + 20 + 25 + 30)

    def test_deposit_is_that_of_the_parameters(self):
        for deposit in (0, 7, 10 ** 6):
            state = State([(1, 2 * 10 ** 6)], 0)
            params = Params(deposit=deposit)
            tx = some_tx(makes=[key_output(1, 2 * 10 ** 6 - deposit - 100)], fee=100, signers=[1], deeds=[("join", 1)])
            self.assertIs(apply_transaction(state, tx, params), True)
            self.assertEqual(state.account(1), (deposit, 0))
            # What comes back is what was paid, whatever the parameters of the call are.
            tx = some_tx(number=2, spends=[(1, 0)], makes=[key_output(1, 2 * 10 ** 6 - 200)], fee=100, signers=[1],
                         deeds=[("leave", 1)])
            self.assertIs(apply_transaction(state, tx, Params(deposit=1)), True)
            self.assertIsNone(state.account(1))
            self.assertEqual(state.picture()[3:6], (200, 0, 0))

    def test_key_that_comes_back(self):
        self.applied(self.tx(signers=[1, 4], deeds=[("leave", 4)], draws=[(4, 30)]))
        self.applied(self.tx(number=9, spends=[(8, 0)], signers=[1, 4], deeds=[("join", 4)]))
        self.assertEqual(self.state.account(4), (20, 0))

    def test_pledge_stays(self):
        self.applied(self.tx(spends=[(0, 0), (5, 0)], data=[(("spend", (5, 0)), [])], pledge=[(0, 1), (0, 2)],
                             signers=[1, 2, 3]))
        self.assertEqual(self.state.unspent(), [(0, 1), (0, 2), (5, 1), (5, 2), (8, 0)])

    def test_pledge_that_is_spent_too(self):
        self.applied(self.tx(spends=[(0, 0), (5, 0)], data=[(("spend", (5, 0)), [])], pledge=[(0, 2), (0, 0)],
                             signers=[1, 3]))
        self.assertEqual(self.state.unspent(), [(0, 1), (0, 2), (5, 1), (5, 2), (8, 0)])

    def test_mint_and_burn(self):
        self.applied(self.tx(mint=[(("true", 1), 5), (("true", 2), 7)], data=[(("mint", "true"), [])], pledge=[(0, 1)],
                             signers=[1, 2]))
        self.assertEqual(self.state.total().of(("true", 1)), 5)
        self.applied(self.tx(number=9, spends=[(8, 0)], mint=[(("true", 1), -5), (("true", 2), -3)], pledge=[(0, 1)],
                             data=[(("mint", "true"), [])], signers=[1, 2]))
        self.assertEqual((self.state.total().of(("true", 1)), self.state.total().of(("true", 2))), (0, 4))

    def test_all_fields_at_once(self):
        self.applied(self.tx(
            spends=[(0, 0), (5, 1), (5, 0)], looks=[(5, 2), (0, 1)], pledge=[(0, 2), (0, 0)],
            makes=[script_output(FAILS, 30, (("true", 1), 2)), key_output(9, 12, datum=[1, 2])], signers=[3, 1, 4, 6, 8],
            mint=[(("true", 1), 5)], begins=50, ends=50, deeds=[("leave", 6), ("join", 8)], draws=[(4, 9)],
            data=[(("spend", (5, 0)), [4]), (("mint", "true"), []), (("spend", (5, 1)), [1])]))
        self.assertEqual(self.state.keys_joined(), [4, 8])

    def test_pledge_of_one_that_is_not_approved(self):
        fields = {"spends": [(0, 0), (5, 2)], "data": [(("spend", (5, 2)), [])], "approved": False}
        self.applied(self.tx(pledge=[(0, 1), (0, 2)], signers=[1, 2, 3], **fields))
        self.assertEqual(self.state.unspent(), [(0, 0), (5, 0), (5, 1), (5, 2)])
        self.assertEqual(self.state.fees, 571)
        self.assertTrue(self.state.is_used(8))
        # Its pledge is the very output that it spends.
        self.applied(self.tx(number=9, pledge=[(0, 0)], signers=[1], **fields))
        self.assertEqual(self.state.unspent(), [(5, 0), (5, 1), (5, 2)])
        self.assertEqual(self.state.fees, 1571)

    def test_nothing_else_of_one_that_is_not_approved(self):
        before = self.state.picture()
        tx = self.tx(
            spends=[(0, 0), (5, 1), (5, 0)], looks=[(5, 2)], pledge=[(0, 1)], makes=[key_output(9, 12, (("true", 1), 2))],
            signers=[2, 1, 4, 6, 8], mint=[(("true", 1), 5)], deeds=[("leave", 6), ("join", 8)], draws=[(4, 9)],
            data=[(("spend", (5, 0)), [4]), (("mint", "true"), []), (("spend", (5, 1)), [2])], approved=False)
        self.assertEqual(dict(verdicts(self.state, tx))["spend", (5, 1)], False)
        self.applied(tx)
        after = self.state.picture()
        self.assertEqual([row for row in before[0] if row not in after[0]], [((0, 1), (("key", 2), ((COIN, 500),), ()))])
        self.assertEqual([row for row in after[0] if row not in before[0]], [])
        self.assertEqual(after[1:], (*before[1:3], 511, *before[4:8], (5, 8)))

    def test_empty_pledge_is_taken_too(self):
        params = Params(pledge_rate=0)
        self.applied(self.tx(spends=[(0, 0), (5, 2)], data=[(("spend", (5, 2)), [])], approved=False), params)
        self.assertEqual((self.state.fees, self.state.is_used(8)), (11, True))

    def test_number_is_used_up(self):
        self.applied(self.tx())
        self.refused(Reused, 8, self.tx(spends=[(0, 1)], signers=[2]))
        self.applied(self.tx(number=9, spends=[(0, 1), (5, 2)], data=[(("spend", (5, 2)), [])], pledge=[(8, 0)],
                             signers=[2, 1], approved=False))
        self.refused(Reused, 9, self.tx(number=9, spends=[(0, 1)], signers=[2]))

    def test_wrong_claims(self):
        self.refused(WrongClaim, (), self.tx(approved=False))
        fields = {"spends": [(0, 0), (5, 2), (5, 0)], "pledge": [(0, 1)], "signers": [1, 2],
                  "data": [(("spend", (5, 2)), []), (("spend", (5, 0)), [])]}
        pairs = ((("spend", (5, 2)), "fail"), (("spend", (5, 0)), True))
        self.refused(WrongClaim, pairs, self.tx(**fields))
        self.applied(self.tx(approved=False, **fields))
        pairs = ((("spend", (5, 0)), True), (("mint", "true"), True))
        fields = {"spends": [(0, 0), (5, 0)], "pledge": [(0, 2)], "signers": [1, 3], "mint": [(("true", 1), 5)],
                  "data": [(("spend", (5, 0)), []), (("mint", "true"), [])], "number": 9, "fee": 40}
        self.refused(WrongClaim, pairs, self.tx(approved=False, **fields))
        self.applied(self.tx(**fields))

    def test_order_of_the_three_parts(self):
        guarded = {"spends": [(0, 0), (5, 2)], "pledge": [(0, 1)], "signers": [1, 2], "data": [(("spend", (5, 2)), [])]}
        shapes = [(BadNumber, 0, {"number": 0}), (NoSpends, None, {"spends": []}), (BadDraw, 7, {"draws": [(7, 0)]}),
                  (BadOutput, 0, {"makes": [key_output(1, 2)]}), (BadInterval, (3, 2), {"begins": 3, "ends": 2})]
        firsts = [(Reused, 5, {"number": 5}), (FeeTooLow, 22, {"fee": 0, "makes": [key_output(3, 9)]}),
                  (UnknownOutput, (9, 9), {"looks": [(9, 9)]})]
        for error, what, fields in firsts:
            self.refused(error, what, some_tx(**{"number": 8, "fee": 100, **guarded, **fields}))
        for error, what, fields in shapes:
            for _, _, others in [*firsts, (None, None, {})]:
                self.refused(error, what, some_tx(**{"number": 8, "fee": 100, **guarded, **others, **fields}))

    def test_same_transaction_elsewhere(self):
        tx = some_tx(spends=[(0, 0)], makes=[key_output(2, 70)], fee=30, signers=[1])
        for coin, outcome in [(100, True), (101, Unbalanced), (99, Unbalanced)]:
            state = State([(1, coin)], 0)
            if outcome is True:
                self.assertIs(apply_transaction(state, tx, PARAMS), True)
            else:
                self.fails(outcome, ((COIN, coin - 100),), apply_transaction, state, tx, PARAMS)
        self.fails(NotSigned, 2, apply_transaction, State([(2, 100)], 0), tx, PARAMS)
        self.fails(UnknownOutput, (0, 0), apply_transaction, State([], 0), tx, PARAMS)
        self.fails(FeeTooLow, 34, apply_transaction, State([(1, 100)], 0), tx, Params(fee_base=22))
        self.fails(BadOutput, 0, apply_transaction, State([(1, 100)], 0), tx, Params(coin_base=70))

    def test_two_states_beside_each_other(self):
        other = State([(1, 1000)], 0)
        tx = some_tx(makes=[key_output(1, 900)], fee=100, signers=[1])
        apply_transaction(other, tx, PARAMS)
        self.assertEqual(self.state.output((0, 0)).bundle.coin, 1000)
        self.assertFalse(self.state.is_used(1))
        self.applied(self.tx(number=1))

    def test_a_rewind_takes_all_back(self):
        before, mark = self.state.picture(), self.state.mark()
        self.applied(self.tx(signers=[1, 4, 9], deeds=[("join", 9)], draws=[(4, 30)]))
        self.applied(self.tx(number=9, spends=[(8, 0), (5, 2)], data=[(("spend", (5, 2)), [])], pledge=[(0, 1)],
                             signers=[1, 2], approved=False))
        self.state.rewind(mark)
        self.assertEqual(self.state.picture(), before)

    def test_made_up_transactions(self):
        source = random.Random(5)
        applied = {True: 0, False: 0}
        for number in range(1, 400):
            if number % 8 == 1:
                self.state = State([(key, 10 ** 6) for key in (1, 2, 3, 1)], 70)
            tx = self.made_up(source, number)
            for approved in (tx.approved, not tx.approved):
                before, mark = self.state.picture(), self.state.mark()
                model, told = Model.of_state(self.state), claiming(tx, approved)
                try:
                    answer = apply_transaction(self.state, told, PARAMS)
                except KeptError:
                    self.assertEqual((self.state.picture(), self.state.mark()), (before, mark))
                else:
                    model.apply(told.picture(), PARAMS)
                    self.assertIs(answer, approved)
                    self.assertEqual(self.state.picture(), model.picture())
                    self.assertEqual(self.state.total().rows, model.total())
                    self.assertEqual(self.state.total().coin, 4 * 10 ** 6 + 70)
                    made_by = {made for made, _ in self.state.unspent()} - {0}
                    self.assertTrue(all([self.state.is_used(made) for made in made_by]))
                    applied[approved] += 1
        self.assertGreater(min(applied.values()), 20)

    def made_up(self, source, number):
        """A transaction that mostly balances, with whatever is there."""
        refs = source.sample(self.state.unspent(), min(source.randint(1, 3), len(self.state.unspent())))
        plain = [ref for ref in self.state.unspent() if self.state.output(ref).address[0] == "key"
                 and not self.state.output(ref).bundle.tokens()]
        mint = source.choice([[], [], [(("true", 1), 3)], [((FAILS, 1), 3)]])
        purposes = [("spend", ref) for ref in refs if ref not in plain and self.state.output(ref).address[0] == "script"]
        purposes += [("mint", asset[0]) for asset, _ in mint]
        cheap = [ref for ref in plain if self.state.output(ref).bundle.coin == 200]
        pledge = (cheap or plain)[-1:] if purposes else []
        joined = self.state.keys_joined()
        deeds = source.choice([[], [], [("join", source.randint(1, 9))], [("leave", key) for key in joined[:1]]])
        addresses = [self.state.output(ref).address for ref in refs + pledge]
        keys = {key for word, key in addresses if word == "key"} | {key for _, key in deeds}
        fields = {"number": number, "spends": refs, "signers": sorted(keys), "mint": mint, "pledge": pledge,
                  "fee": source.choice([60, 90]), "deeds": deeds, "data": [(purpose, [1, 2]) for purpose in purposes]}
        left = difference(self.state, some_tx(**fields), PARAMS)
        locked = script_output(source.choice(["true", "1 < 2", FAILS]), 200, *left.tokens().rows)
        makes = [key_output(source.randint(1, 3), 200), source.choice([locked, key_output(2, 200, *left.tokens().rows)])]
        return some_tx(**{**fields, "makes": [*makes, key_output(source.randint(1, 3), left.coin - 400)]})


if __name__ == "__main__":
    unittest.main()
