"""keptcoin/rules/phase_one.py (9.3)."""

import itertools
import unittest

from keptcoin.amounts.bundle import Bundle
from keptcoin.errors import (
    AlreadyJoined, BadLock, BadPledge, FeeTooLow, MissingData, NeedlessData, NeedlessPledge, NotJoined, NotSigned,
    OutsideInterval, PledgeTooSmall, Reused, RewardLeft, TooCostly, TooMuch, Unbalanced, UnknownOutput,
)
from keptcoin.rules.phase_one import difference, examine
from keptcoin.state.state import State
from keptcoin.tx.fees import least_fee
from keptcoin.tx.params import Params
from keptcoin.tx.shape import check_shape
from tests.helpers import Checks
from tests.ledger import key_output, script_output, some_tx

COIN = ("", 0)
LATE = "begins < 5"
PARAMS = Params()


def some_state():
    """A state at slot 50 in which the key 4 has a reward of 30 and the key 6 none."""
    state = State([(1, 1000), (2, 500), (3, 60), (1, 45)], 7)
    for at, output in enumerate([
        script_output(LATE, 90, (("p", 1), 4), datum=[1]), script_output("signed(1)", 80), script_output("no script", 30),
        script_output("begins", 30), key_output(1, 40, (("p", 1), 4)), key_output(9, 70), script_output(LATE, 30),
    ]):
        state.add_output((5, at), output)
    state.set_account(4, (20, 30))
    state.set_account(6, (25, 0))
    state.set_clock(50, 5)
    state.use(77)
    return state


class ExamineTest(Checks, unittest.TestCase):
    def setUp(self):
        self.state = some_state()
        self.picture, self.mark = self.state.picture(), self.state.mark()

    def tearDown(self):
        self.assertEqual((self.state.picture(), self.state.mark()), (self.picture, self.mark))

    def tx(self, params=PARAMS, rest=0, **fields):
        """A transaction that spends the output of key 1 if nothing else is said, and balances but for the rest."""
        fields = {"spends": [(0, 0)], "signers": [1], "fee": 100, **fields}
        if "makes" not in fields:
            left = difference(self.state, some_tx(**fields), params)
            fields["makes"] = [key_output(1, left.coin - rest, *left.tokens().rows)]
        tx = some_tx(**fields)
        check_shape(tx, params)
        return tx

    def good(self, steps, params=PARAMS, **fields):
        tx = self.tx(params, **fields)
        before = tx.picture()
        self.assertEqual(examine(self.state, tx, params), steps)
        self.assertEqual(tx.picture(), before)

    def bad(self, error, what, params=PARAMS, **fields):
        self.fails(error, what, self.call, self.tx(params, **fields), params)

    def call(self, tx, params):
        return examine(self.state, tx, params)

    def guarded(self, *refs, **more):
        """The fields of a transaction that spends guarded outputs beside that of key 1, with data and a pledge."""
        return {"spends": [(0, 0), *refs], "data": [(("spend", ref), []) for ref in refs], "pledge": [(0, 0)], **more}

    def test_transactions_that_break_no_rule(self):
        self.good(0)
        self.good(0, spends=[(0, 1), (0, 0)], signers=[2, 1, 9], looks=[(5, 2), (5, 5)], begins=50, ends=50)
        self.good(0, signers=[1, 4, 6, 8], deeds=[("leave", 4), ("join", 8), ("leave", 6)], draws=[(4, 30)])
        self.good(0, signers=[1, 4], draws=[(4, 12)])
        self.good(3, **self.guarded((5, 0)))
        self.good(5, **self.guarded((5, 0), (5, 1)))
        self.good(4, pledge=[(0, 0)], mint=[(("true", 1), 5), (("begins < 9", 1), 1)], approved=False,
                  data=[(("mint", "begins < 9"), [1]), (("mint", "true"), [])])
        self.good(1, spends=[(0, 0), (5, 4)], pledge=[(0, 0)], mint=[(("true", 1), 2)], data=[(("mint", "true"), [])])

    def test_answer_is_the_steps_for_the_numbers_of_items(self):
        text = "fold x s in signers from true do s"
        fields = {"mint": [((text, 1), 5)], "data": [(("mint", text), [])], "pledge": [(0, 0)]}
        self.good(3 + 1, **fields)
        self.good(3 + 4, **{**fields, "signers": [1, 2, 3, 4]})
        self.good(3 + 3, looks=[(5, 0), (5, 2), (5, 3)], **fields)

    def test_reused(self):
        self.bad(Reused, 77, number=77)
        self.good(0, number=78)

    def test_interval(self):
        self.good(0, begins=50, ends=50)
        self.good(0, begins=0, ends=50)
        self.good(0, begins=50)
        self.bad(OutsideInterval, 50, begins=51)
        self.bad(OutsideInterval, 50, ends=49)
        self.bad(OutsideInterval, 50, begins=51, ends=10 ** 9)

    def test_unknown_outputs(self):
        makes = [key_output(1, 9)]
        for fields, what in [({"spends": [(0, 9)]}, (0, 9)), ({"spends": [(0, 0), (9, 0), (9, 1)]}, (9, 0)),
                             ({"looks": [(5, 0), (9, 2), (9, 3)]}, (9, 2)), ({"pledge": [(0, 1), (9, 4)]}, (9, 4)),
                             ({"spends": [(0, 0), (9, 0)], "looks": [(9, 1)], "pledge": [(9, 2)]}, (9, 0)),
                             ({"looks": [(9, 1)], "pledge": [(9, 2)]}, (9, 1)), ({"spends": [(-1, 0)]}, (-1, 0)),
                             ({"spends": [(1, 0)]}, (1, 0))]:
            self.bad(UnknownOutput, what, makes=makes, **fields)

    def test_signers_of_spent_outputs(self):
        self.bad(NotSigned, 1, signers=[])
        self.bad(NotSigned, 1, signers=[2])
        self.bad(NotSigned, 2, spends=[(0, 0), (0, 1), (0, 2)])
        self.bad(NotSigned, 3, spends=[(0, 2), (0, 0), (0, 1)])
        self.bad(NotSigned, 2, spends=[(0, 2), (0, 0), (0, 1)], signers=[1, 3])

    def test_scripts_do_not_sign(self):
        self.good(3, **self.guarded((5, 0)))
        self.bad(NotSigned, 1, **self.guarded((5, 0), signers=[2]))

    def test_looks_need_no_signer(self):
        self.good(0, looks=[(0, 1), (5, 5)])

    def test_signers_of_pledged_outputs(self):
        self.bad(NotSigned, 2, pledge=[(0, 0), (0, 1), (0, 2)])
        self.bad(NotSigned, 9, pledge=[(5, 1), (5, 5), (0, 1)])
        self.bad(NeedlessPledge, None, pledge=[(5, 1)])

    def test_signers_of_deeds_and_draws(self):
        self.bad(NotSigned, 8, deeds=[("join", 8), ("join", 7)])
        self.bad(NotSigned, 6, deeds=[("leave", 6), ("join", 7)])
        self.bad(NotSigned, 4, draws=[(4, 3), (6, 3)])

    def test_order_of_the_keys(self):
        fields = {"spends": [(0, 1)], "pledge": [(0, 2)], "deeds": [("join", 8)], "draws": [(4, 3)], "makes": []}
        for signers, missing in [([], 2), ([2], 3), ([2, 3], 8), ([2, 3, 8], 4), ([4, 8, 3], 2), ([2, 4, 8], 3)]:
            self.bad(NotSigned, missing, signers=signers, **fields)

    def test_draws(self):
        self.good(0, signers=[1, 4], draws=[(4, 30)])
        self.bad(TooMuch, 4, signers=[1, 4], draws=[(4, 31)])
        self.bad(TooMuch, 6, signers=[1, 4, 6], draws=[(4, 30), (6, 1)])
        self.bad(NotJoined, 1, draws=[(1, 5)])
        self.bad(NotJoined, 1, signers=[1, 4, 6], draws=[(4, 3), (1, 5), (6, 1)])
        self.bad(TooMuch, 6, signers=[1, 4, 6], draws=[(6, 1), (1, 5)])

    def test_a_key_that_joins_cannot_draw(self):
        self.bad(NotJoined, 8, signers=[1, 8], deeds=[("join", 8)], draws=[(8, 5)])

    def test_joins(self):
        self.good(0, deeds=[("join", 1)])
        self.bad(AlreadyJoined, 4, signers=[1, 4], deeds=[("join", 4)])
        self.bad(AlreadyJoined, 6, signers=[1, 4, 6], deeds=[("join", 1), ("join", 6), ("join", 4)])

    def test_leaves(self):
        self.bad(NotJoined, 1, deeds=[("leave", 1)], makes=[])
        self.good(0, signers=[1, 4], deeds=[("leave", 4)], draws=[(4, 30)])
        self.bad(RewardLeft, 4, signers=[1, 4], deeds=[("leave", 4)], draws=[(4, 29)])
        self.bad(RewardLeft, 4, signers=[1, 4], deeds=[("leave", 4)])
        self.good(0, signers=[1, 6], deeds=[("leave", 6)])
        self.bad(RewardLeft, 4, signers=[1, 4, 6], deeds=[("leave", 6), ("leave", 4)])
        self.bad(NotJoined, 1, signers=[1, 4], deeds=[("leave", 1), ("leave", 4)], makes=[])
        self.bad(RewardLeft, 4, signers=[1, 4], deeds=[("leave", 4), ("leave", 1)], makes=[])

    def test_locks(self):
        self.bad(BadLock, "no script", **self.guarded((5, 2), (5, 3)))
        self.bad(BadLock, "begins", **self.guarded((5, 0), (5, 3), (5, 2)))
        self.bad(BadLock, "1", pledge=[(0, 0)], mint=[(("1", 1), 1)], data=[(("mint", "1"), [])])
        self.bad(BadLock, "no script", **self.guarded((5, 2), mint=[(("1", 1), 1)]))
        self.good(0, looks=[(5, 2)])

    def test_missing_data(self):
        self.bad(MissingData, ("spend", (5, 0)), **self.guarded((5, 0), data=[]))
        self.bad(MissingData, ("spend", (5, 1)), **self.guarded((5, 0), (5, 1), data=[(("spend", (5, 0)), [])]))
        self.bad(MissingData, ("spend", (5, 1)), **self.guarded((5, 1), (5, 0), data=[]))
        self.bad(MissingData, ("mint", "true"), mint=[(("true", 1), 1)], pledge=[(0, 0)])
        self.bad(MissingData, ("spend", (5, 0)), **self.guarded((5, 0), mint=[(("true", 1), 1)], data=[]))
        self.good(4, **self.guarded((5, 0), mint=[(("true", 1), 1)],
                                    data=[(("mint", "true"), []), (("spend", (5, 0)), [5])]))

    def test_needless_data(self):
        self.bad(NeedlessData, ("spend", (0, 0)), data=[(("spend", (0, 0)), [])])
        self.bad(NeedlessData, ("mint", "true"), data=[(("mint", "true"), []), (("mint", "p"), [])])
        self.bad(NeedlessData, ("mint", "q"), **self.guarded((5, 0), data=[(("spend", (5, 0)), []), (("mint", "q"), []),
                                                                           (("mint", "p"), [])]))
        # What is missing comes first.
        self.bad(MissingData, ("spend", (5, 0)), **self.guarded((5, 0), data=[(("mint", "q"), [])]))

    def test_cost(self):
        for most, fits in [(5, True), (6, True), (4, False), (0, False)]:
            params = Params(most_steps=most)
            if fits:
                self.good(5, params, **self.guarded((5, 0), (5, 1)))
            else:
                self.bad(TooCostly, 5, params, **self.guarded((5, 0), (5, 1)))
        self.good(0, Params(most_steps=0))

    def test_fee(self):
        tx = self.tx()
        least = least_fee(tx, 0, PARAMS)
        self.good(0, fee=least)
        self.bad(FeeTooLow, least, fee=least - 1)
        self.bad(FeeTooLow, least, fee=0)
        fields = self.guarded((5, 0), (5, 1))
        params = Params(fee_step=100)
        least = least_fee(self.tx(params, **fields), 5, params)
        self.assertEqual(least, least_fee(self.tx(params, **fields), 0, params) + 5)
        self.good(5, params, **{**fields, "fee": least})
        self.bad(FeeTooLow, least, params, **{**fields, "fee": least - 1})

    def test_needless_pledge(self):
        self.bad(NeedlessPledge, None, pledge=[(0, 0)])
        self.bad(NeedlessPledge, None, pledge=[(0, 3)])
        self.bad(NeedlessPledge, None, pledge=[(5, 4)])

    def test_bad_pledge(self):
        self.bad(BadPledge, (5, 1), **self.guarded((5, 0), pledge=[(0, 0), (5, 1), (5, 4)]))
        self.bad(BadPledge, (5, 4), **self.guarded((5, 0), pledge=[(0, 0), (5, 4), (5, 1)]))
        self.bad(BadPledge, (5, 6), **self.guarded((5, 0), pledge=[(5, 6)]))

    def test_size_of_the_pledge(self):
        fields = self.guarded((5, 0), pledge=[(0, 3)], spends=[(0, 0), (5, 0)])
        self.good(3, **{**fields, "fee": 30})
        self.bad(PledgeTooSmall, 45, **{**fields, "fee": 31})
        self.bad(PledgeTooSmall, 0, **{**fields, "fee": 31, "pledge": []})
        self.bad(PledgeTooSmall, 105, **{**fields, "fee": 71, "pledge": [(0, 3), (0, 2)], "signers": [1, 3]})
        self.good(3, **{**fields, "fee": 70, "pledge": [(0, 3), (0, 2)], "signers": [1, 3]})
        # 45 * 100 is not less than 45 * 100, and is less than 45 * 101.
        self.good(3, Params(pledge_rate=100), **{**fields, "fee": 45})
        self.bad(PledgeTooSmall, 45, Params(pledge_rate=101), **{**fields, "fee": 45})
        self.good(3, Params(pledge_rate=0), **{**fields, "fee": 45, "pledge": []})

    def test_spent_outputs_may_be_pledged(self):
        self.good(3, **self.guarded((5, 0), pledge=[(0, 0)]))

    def test_balance(self):
        for rest in (1, -1, 100):
            self.bad(Unbalanced, ((COIN, rest),), rest=rest)
        self.bad(Unbalanced, ((("p", 1), 4),), spends=[(5, 4)], fee=30, makes=[key_output(1, 10)])
        self.bad(Unbalanced, ((COIN, 890), (("p", 1), -1)), makes=[key_output(1, 10, (("p", 1), 1))])
        self.bad(Unbalanced, ((COIN, -10),), makes=[key_output(1, 910)])

    def test_draws_and_deposits_balance(self):
        self.bad(Unbalanced, ((COIN, 30),), signers=[1, 4], draws=[(4, 30)], makes=[key_output(1, 900)])
        self.good(0, signers=[1, 4], draws=[(4, 30)], makes=[key_output(1, 930)])
        self.good(0, deeds=[("join", 1)], makes=[key_output(1, 880)])
        self.good(0, Params(deposit=7), deeds=[("join", 1)], makes=[key_output(1, 893)])
        # The refund is the deposit that was made, whatever it would be today.
        self.good(0, Params(deposit=7), signers=[1, 6], deeds=[("leave", 6)], makes=[key_output(1, 925)])

    def test_pledge_does_not_count_in_the_balance(self):
        self.good(3, **self.guarded((5, 0), spends=[(5, 0)], fee=30, pledge=[(0, 3)],
                                    makes=[key_output(1, 60, (("p", 1), 4))]))

    def test_each_rule_and_the_one_that_stands_first(self):
        guarded = (5, 0)
        rules = [
            (Reused, 77, {"number": 77}),
            (OutsideInterval, 50, {"begins": 51}),
            (UnknownOutput, (9, 9), {"looks": [(9, 9)]}),
            (NotSigned, 2, {"spends": [(0, 0), guarded, (0, 1)]}),
            (TooMuch, 4, {"draws": [(4, 31)]}),
            (AlreadyJoined, 6, {"deeds": [("join", 6)]}),
            (BadLock, "1", {"mint": [(("1", 1), 1)]}),
            (MissingData, ("spend", guarded), {"data": []}),
            (TooCostly, 3, {}),
            (FeeTooLow, None, {"fee": 0}),
            (BadPledge, (5, 4), {"pledge": [(5, 4)]}),
            (Unbalanced, None, {"rest": 5}),
        ]
        params = Params(most_steps=2)
        usual = self.guarded(guarded, signers=[1, 4, 6])
        for (error, what, fields), (_, _, others) in itertools.combinations_with_replacement(rules, 2):
            # The rule about the cost is the one that is broken by the parameters.
            chosen = params if {} in (fields, others) else PARAMS
            tx_fields = {**usual, **fields, **others}
            rest = tx_fields.pop("rest", 0)
            tx = self.tx(chosen, rest, **tx_fields)
            with self.assertRaises(error) as caught:
                self.call(tx, chosen)
            self.assertIs(caught.exception.__class__, error)
            if what is not None:
                self.assertEqual(caught.exception.what, what)

    def test_nothing_of_a_refused_transaction_stays(self):
        tx = self.tx(signers=[])
        before = tx.picture()
        self.fails(NotSigned, 1, self.call, tx, PARAMS)
        self.assertEqual(tx.picture(), before)
        self.assertEqual(vars(PARAMS), vars(Params()))


class DifferenceTest(unittest.TestCase):
    def setUp(self):
        self.state = some_state()

    def differs(self, rows, params=PARAMS, **fields):
        found = difference(self.state, some_tx(**fields), params)
        self.assertIsInstance(found, Bundle)
        self.assertEqual(found.rows, tuple(rows))

    def test_spends_and_makes(self):
        self.differs([(COIN, 1000)])
        self.differs([], makes=[key_output(1, 1000)])
        self.differs([(COIN, -1)], makes=[key_output(1, 1001)])
        self.differs([(COIN, 1090), (("p", 1), 4)], spends=[(0, 0), (5, 0)])
        self.differs([(COIN, 80), (("p", 1), 8)], spends=[(5, 0), (5, 4)], makes=[key_output(1, 50)])
        self.differs([(COIN, 995), (("q", 1), -3)], makes=[key_output(1, 5, (("q", 1), 3))])

    def test_mint_and_fee(self):
        self.differs([(COIN, 990)], fee=10)
        self.differs([(COIN, 1005)], fee=-5)
        self.differs([(COIN, 1000), (("q", 1), 3), (("q", 2), -4)], mint=[(("q", 1), 3), (("q", 2), -4)])
        self.differs([(COIN, 90)], spends=[(5, 0)], mint=[(("p", 1), -4)])
        self.differs([(COIN, 1007), (("", 3), 1)], mint=[(COIN, 7), (("", 3), 1)])

    def test_draws_and_deeds(self):
        self.differs([(COIN, 1035)], draws=[(4, 30), (9, 5)])
        self.differs([(COIN, 1020)], deeds=[("leave", 4)])
        self.differs([(COIN, 1045)], deeds=[("leave", 4), ("leave", 6)])
        self.differs([(COIN, 980)], deeds=[("join", 4)])
        self.differs([(COIN, 960)], deeds=[("join", 1), ("join", 2)])
        self.differs([(COIN, 1013)], Params(deposit=7), deeds=[("leave", 4), ("join", 1)])
        self.differs([(COIN, 1000)], Params(deposit=0), deeds=[("join", 1)])

    def test_looks_and_pledge_do_not_count(self):
        self.differs([(COIN, 1000)], looks=[(0, 1)], pledge=[(0, 2)])

    def test_nothing_is_modified(self):
        picture, mark = self.state.picture(), self.state.mark()
        tx = some_tx(mint=[(("q", 1), 3)], deeds=[("leave", 4)])
        before = tx.picture()
        difference(self.state, tx, PARAMS)
        self.assertEqual((self.state.picture(), self.state.mark(), tx.picture()), (picture, mark, before))


if __name__ == "__main__":
    unittest.main()
