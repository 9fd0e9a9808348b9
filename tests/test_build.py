"""keptcoin/wallet/build.py (13.3 to 13.7)."""

import random
import unittest

from keptcoin.amounts.bundle import Bundle
from keptcoin.amounts.sums import total
from keptcoin.errors import (
    BadData, BadFee, BadInterval, BadLock, BadMint, BadName, BadNumber, BadOutput, BadText, FeeTooLow, KeptError,
    MissingData, NeedlessData, NoPledge, NotEnough, NotSigned, OutsideInterval, Repeated, Reused, ScriptsRefuse, TooCostly,
    TooMany, Unbalanced, UnknownOutput,
)
from keptcoin.rules.apply import apply_transaction
from keptcoin.rules.needs import purposes, script_steps
from keptcoin.rules.phase_one import examine
from keptcoin.rules.phase_two import verdicts
from keptcoin.state.state import State
from keptcoin.tx.fees import least_fee
from keptcoin.tx.output import Output
from keptcoin.tx.params import Params
from keptcoin.tx.shape import check_shape
from keptcoin.tx.transaction import LAST_SLOT, Transaction
from keptcoin.wallet.build import build
from keptcoin.wallet.choose import pledge_for, sources
from tests.helpers import Checks
from tests.ledger import COIN, key_output, script_output, state_of

PARAMS = Params()
TOKEN = ("true", 1)
# How many steps it can take hangs on how many outputs are made.
COUNTING = "(fold o s in made from 0 do s + 1) <= 8"


def told(tx):
    """A transaction in short."""
    return (tx.spends, tx.fee, [output.picture() for output in tx.makes])


class SlowRequest:
    """A request, and the points 13.3 to 13.6 once more."""

    def __init__(self, state, params, *, key, number, pays, mint=(), also=(), data=(), looks=(), signers=(), begins=0,
                 ends=LAST_SLOT):
        self.state, self.params, self.key, self.also, self.looks = state, params, key, [*also], [*looks]
        self.pays, self.mint = [*pays], Bundle(mint)
        self.fields = {"number": number, "mint": mint, "data": data, "looks": looks, "begins": begins, "ends": ends,
                       "signers": [key, *signers]}

    def tx(self, spends, makes, fee, pledge=()):
        return Transaction(spends=spends, makes=makes, fee=fee, pledge=pledge, **self.fields)

    def least(self, spends, makes):
        tx = self.tx(spends, makes, 0)
        return least_fee(tx, script_steps(self.state, tx), self.params)

    def spends(self):
        """The spends of all candidates, in order."""
        free = [ref for ref in sources(self.state, self.key) if ref not in self.also]
        counts = range(0 if self.also else 1, min(8 - len(self.also), len(free)) + 1)
        return [self.also + free[:count] for count in counts]

    def rest(self, spends):
        taken = total([self.state.output(ref).bundle for ref in spends])
        return taken + self.mint - total([output.bundle for output in self.pays])

    def balanced(self, spends):
        """The transaction with these spends, or None."""
        rest = self.rest(spends)
        fee = self.least(spends, [*self.pays, Output(("key", self.key), rest)])
        change = Output(("key", self.key), rest - Bundle.of_coin(fee))
        needed = self.params.coin_base + len(change.bundle.rows)
        if change.bundle.coin >= needed and min([quantity for _, quantity in change.bundle.rows]) > 0:
            return self.tx(spends, [*self.pays, change], fee)
        if [asset for asset, _ in rest.rows if asset != COIN] == [] and rest.coin >= self.least(spends, self.pays):
            return self.tx(spends, self.pays, rest.coin)
        return None

    def answer(self):
        """The transaction, or the pair of an error and its item."""
        for at, ref in enumerate(self.also):
            if ref in self.also[:at]:
                return (Repeated, ref)
        for ref in self.also + self.looks:
            if self.state.output(ref) is None:
                return (UnknownOutput, ref)
        try:
            script_steps(self.state, self.tx(self.also, self.pays, 0))
        except BadLock as e:
            return (BadLock, e.what)
        found = [self.balanced(spends) for spends in self.spends()]
        found = [tx for tx in found if tx is not None]
        if not found:
            return (NotEnough, None)
        tx = found[0]
        try:
            if purposes(self.state, tx):
                tx = self.tx(tx.spends, tx.makes, tx.fee, pledge_for(self.state, self.key, tx.fee, self.params))
            check_shape(tx, self.params)
            examine(self.state, tx, self.params)
        except KeptError as e:
            return (e.__class__, e.what)
        pairs = verdicts(self.state, tx)
        if [verdict for _, verdict in pairs if verdict is not True]:
            return (ScriptsRefuse, tuple(pairs))
        return tx

    def is_possible(self):
        """Whether 13.7 denies NotEnough: tries each fee with a change and without one."""
        for spends in self.spends():
            rest = self.rest(spends)
            if [asset for asset, _ in rest.rows if asset != COIN] == [] and rest.coin >= self.least(spends, self.pays):
                return True
            for fee in range(max(0, rest.coin) + 1):
                change = Output(("key", self.key), rest - Bundle.of_coin(fee))
                if all([quantity > 0 for _, quantity in change.bundle.rows]):
                    if change.bundle.coin >= self.params.coin_base + len(change.bundle.rows):
                        if fee >= self.least(spends, [*self.pays, change]):
                            return True
        return False


class BuildCase(Checks, unittest.TestCase):
    def built(self, state, *, params=PARAMS, key=4, number=1, pays=(), **request):
        """Builds a transaction, and looks at all that is promised of it."""
        pays = [key_output(5, 30)] if pays == () else pays
        request = {"key": key, "number": number, "pays": pays, **request}
        before, mark = state.picture(), state.mark()
        shown = self.shown(request)
        tx = build(state, params, **request)
        self.assertEqual((state.picture(), state.mark()), (before, mark))
        self.assertEqual(self.shown(request), shown)
        self.assertEqual(tx.picture(), SlowRequest(state, params, **request).answer().picture())
        self.assertEqual((tx.number, tx.deeds, tx.draws, tx.approved), (number, (), (), True))
        self.assertIs(apply_transaction(state, tx, params), True)
        state.rewind(mark)
        return tx

    def shown(self, request):
        """What the request passes, its lists and outputs included."""
        return [(name, repr([getattr(item, "picture", lambda item=item: item)() for item in value]
                            if isinstance(value, (list, tuple)) else getattr(value, "rows", value)))
                for name, value in request.items()]

    def refuses(self, error, what, state, *, params=PARAMS, key=4, number=1, pays=(), **request):
        pays = [key_output(5, 30)] if pays == () else pays
        request = {"key": key, "number": number, "pays": pays, **request}
        before, mark = state.picture(), state.mark()
        shown = self.shown(request)
        self.fails(error, what, build, state, params, **request)
        self.assertEqual((state.picture(), state.mark()), (before, mark))
        self.assertEqual(self.shown(request), shown)
        self.assertEqual(SlowRequest(state, params, **request).answer(), (error, what))


class PaymentTest(BuildCase):
    def test_of_the_interface(self):
        state = State([(4, 50), (4, 70), (5, 60)], 0)
        tx = self.built(state)
        self.assertEqual(told(tx), (((0, 1),), 21, [key_output(5, 30).picture(), key_output(4, 19).picture()]))

    def test_what_comes_from_the_request(self):
        state = State([(4, 500), (5, 60), (5, 61)], 0)
        state.set_clock(3, 0)
        tx = self.built(state, number=77, looks=[(0, 1), (0, 2)], signers=[9, 8], begins=2, ends=30)
        self.assertEqual((tx.number, tx.looks, tx.signers, tx.begins, tx.ends), (77, ((0, 1), (0, 2)), (4, 9, 8), 2, 30))
        self.assertEqual((tx.spends, tx.pledge, tx.data, tx.mint.rows), (((0, 0),), (), (), ()))
        tx = self.built(state, number=77)
        self.assertEqual((tx.looks, tx.signers, tx.begins, tx.ends), ((), (4,), 0, 10 ** 9))

    def test_tuples_and_lists(self):
        state = state_of(key_output(4, 500), script_output("true", 50), key_output(5, 60))
        pictures = []
        for make in (list, tuple):
            tx = self.built(state, pays=make([key_output(5, 30)]), mint=make([(TOKEN, 5)]), also=make([(0, 1)]),
                            data=make([(("spend", (0, 1)), make([3])), (("mint", "true"), make([]))]),
                            looks=make([(0, 2)]), signers=make([7]))
            pictures.append(tx.picture())
        self.assertEqual(pictures[0], pictures[1])
        tx = self.built(state, mint=Bundle([(TOKEN, 5)]), data=[(("mint", "true"), [])])
        self.assertEqual(tx.mint.rows, ((TOKEN, 5),))

    def test_change_that_is_just_enough(self):
        # A payment with a change costs 21, one without costs 17, and the change has at least 3.
        for coin, fee, makes in [
            (200, 21, [key_output(5, 30), key_output(4, 149)]), (55, 21, [key_output(5, 30), key_output(4, 4)]),
            (54, 21, [key_output(5, 30), key_output(4, 3)]), (53, 23, [key_output(5, 30)]), (52, 22, [key_output(5, 30)]),
            (48, 18, [key_output(5, 30)]), (47, 17, [key_output(5, 30)]),
        ]:
            tx = self.built(State([(4, coin)], 0))
            self.assertEqual(told(tx), (((0, 0),), fee, [output.picture() for output in makes]))
        for coin in (46, 45, 30, 1):
            self.refuses(NotEnough, None, State([(4, coin)], 0))

    def test_other_parameters(self):
        pays = [key_output(5, 50)]
        for params, few, many in [(Params(coin_base=40), 67, 112), (Params(fee_base=0, fee_weight=0), 50, 53),
                                  (Params(fee_weight=3), 91, 106), (Params(fee_base=1000), 1062, 1069)]:
            for coin in range(few - 3, many + 3):
                state = State([(4, coin)], 0)
                if coin < few:
                    self.refuses(NotEnough, None, state, params=params, pays=pays)
                else:
                    self.assertEqual(len(self.built(state, params=params, pays=pays).makes), 1 if coin < many else 2)

    def test_fee_of_nothing(self):
        params = Params(fee_base=0, fee_weight=0, fee_step=0)
        self.assertEqual(told(self.built(State([(4, 30)], 0), params=params)), (((0, 0),), 0, [key_output(5, 30).picture()]))
        self.assertEqual(self.built(State([(4, 32)], 0), params=params).fee, 2)
        self.assertEqual(self.built(State([(4, 33)], 0), params=params).fee, 0)

    def test_no_outputs_to_make(self):
        state = State([(4, 13), (4, 12)], 0)
        self.assertEqual(told(self.built(state, pays=[])), (((0, 0),), 13, []))
        self.assertEqual(told(self.built(State([(4, 50)], 0), pays=[])), (((0, 0),), 17, [key_output(4, 33).picture()]))
        self.refuses(NotEnough, None, State([(4, 11)], 0), pays=[])
        # Also where nothing would have to be paid, something is spent.
        free = Params(fee_base=0, fee_weight=0)
        self.assertEqual(told(self.built(state, pays=[], params=free)), (((0, 0),), 0, [key_output(4, 13).picture()]))
        self.refuses(NotEnough, None, State([], 0), pays=[], params=free)

    def test_first_candidate_that_balances(self):
        # With one output it balances without a change; that two would give a change does not matter.
        state = State([(4, 40), (4, 50), (4, 45)], 0)
        self.assertEqual(told(self.built(state)), (((0, 1),), 20, [key_output(5, 30).picture()]))
        state = State([(4, 20), (4, 30), (4, 25)], 0)
        self.assertEqual(told(self.built(state)), (((0, 1), (0, 2)), 25, [key_output(5, 30).picture()]))
        state = State([(4, 20), (4, 20), (4, 25)], 0)
        tx = self.built(state)
        self.assertEqual(told(tx), (((0, 2), (0, 0), (0, 1)), 25, [key_output(5, 30).picture(), key_output(4, 10).picture()]))

    def test_many_sources(self):
        # Each further output costs 2.
        state = State([(4, 12)] * 10, 0)
        tx = self.built(state, pays=[key_output(5, 65)])
        self.assertEqual((tx.spends, tx.fee, len(tx.makes)), (tuple([(0, at) for at in range(8)]), 31, 1))
        self.refuses(NotEnough, None, state, pays=[key_output(5, 66)])
        self.refuses(NotEnough, None, State([(4, 12)] * 5, 0), pays=[key_output(5, 65)])
        tx = self.built(State([(4, 19)] * 8, 0), pays=[key_output(5, 113)])
        self.assertEqual((len(tx.spends), tx.makes[1].bundle.coin, tx.fee), (8, 4, 35))

    def test_no_sources(self):
        self.refuses(NotEnough, None, State([], 0))
        self.refuses(NotEnough, None, State([(5, 500)], 0))
        self.refuses(NotEnough, None, State([(5, 500)], 0), pays=[])
        self.refuses(NotEnough, None, state_of(script_output("true", 500)))

    def test_payments_that_are_negative_or_too_rich(self):
        state = State([(4, 500)], 0)
        self.refuses(NotEnough, None, state, pays=[key_output(5, 501)])
        self.refuses(BadOutput, 0, state, pays=[key_output(5, -1)])
        self.refuses(NotEnough, None, state, pays=[key_output(5, 30, (TOKEN, 1))])
        # The change would hold the token that nobody has.
        self.refuses(BadOutput, 0, state, pays=[key_output(5, 30, (TOKEN, -1))])


class AssetTest(BuildCase):
    def test_rest_with_other_assets(self):
        # A change with two rows costs 23 and has at least 4.
        for coin in (500, 58, 57):
            tx = self.built(state_of(key_output(4, coin, (TOKEN, 5))))
            self.assertEqual(told(tx), (((0, 0),), 23, [key_output(5, 30).picture(),
                                                        key_output(4, coin - 53, (TOKEN, 5)).picture()]))
        # A rest with a token cannot be left to the fee.
        self.refuses(NotEnough, None, state_of(key_output(4, 56, (TOKEN, 5))))
        # The next output helps out.
        tx = self.built(state_of(key_output(4, 56, (TOKEN, 5)), key_output(4, 3)))
        self.assertEqual(told(tx), (((0, 0), (0, 1)), 25, [key_output(5, 30).picture(), key_output(4, 4, (TOKEN, 5)).picture()]))

    def test_all_of_an_asset_is_paid(self):
        pays = [key_output(5, 30, (TOKEN, 5))]
        tx = self.built(state_of(key_output(4, 50, (TOKEN, 5))), pays=pays)
        self.assertEqual(told(tx), (((0, 0),), 20, [pays[0].picture()]))
        tx = self.built(state_of(key_output(4, 90, (TOKEN, 5))), pays=pays)
        self.assertEqual(told(tx), (((0, 0),), 23, [pays[0].picture(), key_output(4, 37).picture()]))

    def test_asset_that_comes_with_a_later_source(self):
        state = state_of(key_output(4, 90), key_output(4, 80), key_output(4, 3, (TOKEN, 5)), key_output(4, 9))
        tx = self.built(state, pays=[key_output(5, 30, (TOKEN, 4))])
        self.assertEqual(tx.spends, ((0, 0), (0, 1), (0, 3), (0, 2)))
        self.assertEqual(tx.makes[1].bundle.tokens().rows, ((TOKEN, 1),))
        self.refuses(NotEnough, None, state, pays=[key_output(5, 30, (TOKEN, 6))])

    def test_mints(self):
        state = State([(4, 500)], 0)
        data = [(("mint", "true"), [])]
        tx = self.built(state, mint=[(TOKEN, 7)], data=data)
        self.assertEqual((tx.mint.rows, tx.data), (((TOKEN, 7),), ((("mint", "true"), ()),)))
        self.assertEqual(tx.makes[1].bundle.tokens().rows, ((TOKEN, 7),))
        self.assertEqual(tx.pledge, ((0, 0),))
        tx = self.built(state, mint=[(TOKEN, 7)], data=data, pays=[key_output(5, 30, (TOKEN, 7))])
        self.assertEqual(tx.makes[1].bundle.tokens().rows, ())
        tx = self.built(state, mint=[(TOKEN, 7), (("true", 2), 1)], data=data, pays=[key_output(5, 30, (TOKEN, 6))])
        self.assertEqual(tx.makes[1].bundle.tokens().rows, ((TOKEN, 1), (("true", 2), 1)))
        self.refuses(NotEnough, None, state, mint=[(TOKEN, 7)], data=data, pays=[key_output(5, 30, (TOKEN, 8))])

    def test_burns(self):
        data = [(("mint", "true"), [])]
        state = state_of(key_output(4, 400, (TOKEN, 5)), key_output(4, 300))
        tx = self.built(state, mint=[(TOKEN, -2)], data=data)
        self.assertEqual((tx.spends, tx.makes[1].bundle.tokens().rows), (((0, 0),), ((TOKEN, 3),)))
        tx = self.built(state, mint=[(TOKEN, -5)], data=data)
        self.assertEqual(tx.makes[1].bundle.tokens().rows, ())
        self.refuses(NotEnough, None, state, mint=[(TOKEN, -6)], data=data)
        # What is to be burned stands in an output with less coin.
        state = state_of(key_output(4, 300), key_output(4, 200, (TOKEN, 5)))
        self.assertEqual(self.built(state, mint=[(TOKEN, -2)], data=data).spends, ((0, 0), (0, 1)))

    def test_burned_token_lets_the_rest_go_to_the_fee(self):
        state = state_of(key_output(4, 56, (TOKEN, 5)), key_output(4, 55))
        tx = self.built(state, mint=[(TOKEN, -5)], data=[(("mint", "true"), [])], params=Params(pledge_rate=0))
        self.assertEqual(told(tx), (((0, 0),), 26, [key_output(5, 30).picture()]))

    def test_steps_of_candidates(self):
        # The script can take more steps where more outputs are made, so a change makes the fee grow by more than its weight.
        params = Params(fee_step=100, pledge_rate=0)
        request = {"pays": [key_output(5, 30, ((COUNTING, 1), 1))], "mint": [((COUNTING, 1), 1)],
                   "data": [(("mint", COUNTING), [])], "params": params}
        for coin, makes, fee in [(200, 2, 38), (71, 2, 38), (70, 1, 40), (61, 1, 31), (60, 0, None)]:
            state = State([(4, coin)], 0)
            if makes == 0:
                self.refuses(NotEnough, None, state, **request)
                continue
            tx = self.built(state, **request)
            self.assertEqual((len(tx.makes), tx.fee), (makes, fee))


class AlsoTest(BuildCase):
    def test_also_is_spent_first(self):
        state = State([(4, 50), (4, 70), (4, 60), (5, 40), (5, 80)], 0)
        tx = self.built(state, also=[(0, 3), (0, 0)], signers=[5])
        self.assertEqual(told(tx), (((0, 3), (0, 0)), 24, [key_output(5, 30).picture(), key_output(4, 36).picture()]))
        tx = self.built(state, also=[(0, 3)], signers=[5], pays=[key_output(5, 60)])
        self.assertEqual(tx.spends, ((0, 3), (0, 1)))
        tx = self.built(state, also=[(0, 3), (0, 1)], signers=[5], pays=[key_output(5, 140)])
        self.assertEqual(tx.spends, ((0, 3), (0, 1), (0, 2)))

    def test_no_free_reference_is_needed(self):
        state = State([(5, 80), (4, 90)], 0)
        self.assertEqual(self.built(state, also=[(0, 0)], signers=[5]).spends, ((0, 0),))
        # The payer has nothing at all.
        tx = self.built(State([(5, 80)], 0), also=[(0, 0)], signers=[5])
        self.assertEqual(tx.makes[1].picture(), key_output(4, 28).picture())

    def test_free_references_that_are_in_also(self):
        state = State([(4, 50), (4, 70), (4, 60)], 0)
        tx = self.built(state, also=[(0, 1)], pays=[key_output(5, 100)])
        self.assertEqual(tx.spends, ((0, 1), (0, 2)))
        tx = self.built(state, also=[(0, 2), (0, 1), (0, 0)], pays=[key_output(5, 100)])
        self.assertEqual(tx.spends, ((0, 2), (0, 1), (0, 0)))
        self.refuses(NotEnough, None, state, also=[(0, 2), (0, 1), (0, 0)], pays=[key_output(5, 170)])

    def test_eight_of_them(self):
        state = State([(4, 12)] * 10, 0)
        eight = [(0, at) for at in (7, 1, 2, 9, 4, 5, 6, 8)]
        tx = self.built(state, also=eight)
        self.assertEqual(tx.spends, tuple(eight))
        self.built(state, also=eight, pays=[key_output(5, 65)])
        # There is no place for a free reference.
        self.refuses(NotEnough, None, state, also=eight, pays=[key_output(5, 66)])
        tx = self.built(state, also=eight[:7], pays=[key_output(5, 65)])
        self.assertEqual(tx.spends, (*eight[:7], (0, 0)))
        for count in (9, 10):
            self.refuses(NotEnough, None, state, also=[(0, at) for at in range(count)])

    def test_guarded_outputs(self):
        state = state_of(key_output(4, 200), script_output("head(redeemer) == 7", 100, datum=[1]))
        data = [(("spend", (0, 1)), [7])]
        tx = self.built(state, also=[(0, 1)], data=data)
        self.assertEqual((tx.spends, tx.pledge, tx.data), (((0, 1),), ((0, 0),), ((("spend", (0, 1)), (7,)),)))
        self.refuses(ScriptsRefuse, ((("spend", (0, 1)), False),), state, also=[(0, 1)], data=[(("spend", (0, 1)), [6])])
        # A pledge may be spent, too.
        tx = self.built(state, also=[(0, 1)], data=data, pays=[key_output(5, 150)])
        self.assertEqual((tx.spends, tx.pledge), (((0, 1), (0, 0)), ((0, 0),)))

    def test_pledge_of_nothing(self):
        state = state_of(script_output("true", 100))
        data = [(("spend", (0, 0)), [])]
        self.refuses(NoPledge, None, state, also=[(0, 0)], data=data)
        self.assertEqual(self.built(state, also=[(0, 0)], data=data, params=Params(pledge_rate=0)).pledge, ())

    def test_pledge_of_four(self):
        state = state_of(script_output("true", 100), *[key_output(4, 10)] * 5)
        data = [(("spend", (0, 0)), [])]
        tx = self.built(state, also=[(0, 0)], data=data, params=Params(pledge_rate=160))
        self.assertEqual((tx.fee, tx.pledge), (23, ((0, 1), (0, 2), (0, 3), (0, 4))))
        self.refuses(NoPledge, None, state, also=[(0, 0)], data=data, params=Params(pledge_rate=174))


class ErrorTest(BuildCase):
    def setUp(self):
        self.state = state_of(key_output(4, 500), script_output("signed(7)", 100), script_output("begins", 100),
                              script_output("1 +", 100), key_output(5, 100), script_output("true and fail", 100))

    def spending(self, *numbers):
        """What a request says to spend these guarded outputs."""
        return {"also": [(0, at) for at in numbers], "data": [(("spend", (0, at)), []) for at in numbers]}

    def test_repeated(self):
        self.refuses(Repeated, (0, 0), self.state, also=[(0, 0), (0, 4), (0, 0)])
        self.refuses(Repeated, (0, 4), self.state, also=[(0, 0), (0, 4), (0, 4), (0, 0)])
        self.refuses(Repeated, (9, 9), self.state, also=[(9, 9), (9, 9)])
        self.refuses(Repeated, (0, 3), self.state, also=[(8, 8), (0, 3), (0, 3)], looks=[(7, 7)], pays=[key_output(5, 10 ** 6)])

    def test_unknown(self):
        self.refuses(UnknownOutput, (9, 9), self.state, also=[(0, 0), (9, 9), (8, 8)])
        self.refuses(UnknownOutput, (7, 7), self.state, also=[(0, 0)], looks=[(0, 4), (7, 7), (6, 6)])
        self.refuses(UnknownOutput, (9, 9), self.state, also=[(9, 9)], looks=[(7, 7)])
        self.refuses(UnknownOutput, (7, 7), self.state, looks=[(7, 7)], mint=[(("1 +", 0), 3)])
        self.refuses(UnknownOutput, (9, 9), self.state, also=[(0, 3), (9, 9)])
        self.refuses(UnknownOutput, (9, 9), self.state, also=[(9, 9)], pays=[key_output(5, 10 ** 6)])

    def test_bad_locks(self):
        self.refuses(BadLock, "begins", self.state, **self.spending(2))
        self.refuses(BadLock, "1 +", self.state, **self.spending(1, 3, 2))
        self.refuses(BadLock, "1 +", self.state, **self.spending(3), mint=[(("begins", 0), 1)])
        self.refuses(BadLock, "begins", self.state, mint=[(("signed(1)", 0), 1), (("begins", 0), 1), (("true", 0), 1)])
        self.refuses(BadLock, "", self.state, mint=[(("", 3), 1)])
        # Also if there is no candidate, or none that balances.
        self.refuses(BadLock, "begins", State([], 0), mint=[(("begins", 0), 1)])
        self.refuses(BadLock, "begins", self.state, mint=[(("begins", 0), 1)], pays=[key_output(5, 10 ** 6)])
        self.refuses(BadLock, "begins", self.state, mint=[(("begins", 0), 1)], key=77, number=0)
        # Locks of outputs that are made or looked at do not matter.
        self.built(self.state, pays=[script_output("1 +", 30)], looks=[(0, 3)])

    def test_not_enough(self):
        self.refuses(NotEnough, None, self.state, pays=[key_output(5, 500)])
        self.refuses(NotEnough, None, self.state, pays=[key_output(5, 500)], number=0)
        self.refuses(NotEnough, None, self.state, pays=[key_output(5, 500)], begins=9, ends=3)
        self.refuses(NotEnough, None, self.state, mint=[(("signed(8)", 0), -1)])

    def test_no_pledge(self):
        state = state_of(key_output(4, 60, (TOKEN, 1)), script_output("signed(7)", 100))
        self.refuses(NoPledge, None, state, **self.spending(1))
        self.refuses(NoPledge, None, state, **self.spending(1), number=0)
        self.refuses(NoPledge, None, state, also=[(0, 1)])
        self.refuses(NoPledge, None, state, also=[(0, 1)], begins=5)
        # Without a purpose none is needed.
        self.built(state)

    def test_shape(self):
        state = self.state
        self.refuses(BadNumber, 0, state, number=0)
        self.refuses(BadNumber, 10 ** 9 + 1, state, number=10 ** 9 + 1)
        self.built(state, number=10 ** 9)
        self.refuses(TooMany, "makes", state, pays=[key_output(5, 5)] * 8)
        self.refuses(TooMany, "makes", state, pays=[key_output(5, 5)] * 9)
        self.built(state, pays=[key_output(5, 5)] * 7)
        self.refuses(TooMany, "looks", state, looks=[(0, 4)] * 9)
        self.refuses(TooMany, "signers", state, signers=[*range(10, 18)])
        self.refuses(Repeated, 4, state, signers=[4])
        self.refuses(Repeated, 9, state, signers=[9, 8, 9])
        self.refuses(Repeated, (0, 4), state, looks=[(0, 4), (0, 4)])
        self.refuses(Repeated, (0, 0), state, looks=[(0, 0)])
        self.refuses(BadName, 10 ** 9 + 1, state, pays=[key_output(10 ** 9 + 1, 30)])
        self.refuses(BadName, 10 ** 9 + 1, state, signers=[10 ** 9 + 1])
        self.refuses(BadText, "", state, pays=[script_output("", 30)])
        self.refuses(BadOutput, 1, state, pays=[key_output(5, 30), key_output(5, 2)])
        self.refuses(BadMint, COIN, state, mint=[(COIN, 5)])
        self.refuses(BadInterval, (9, 3), state, begins=9, ends=3)
        self.refuses(BadData, ("spend", (0, 1)), state, data=[(("spend", (0, 1)), [10 ** 15 + 1])])
        # Also ahead of the first phase.
        self.refuses(BadNumber, 0, state, number=0, begins=5)

    def test_large_quantities(self):
        self.assertEqual(self.built(state_of(key_output(4, 10 ** 12 + 51))).makes[1].bundle.coin, 10 ** 12)
        state = state_of(key_output(4, 10 ** 12 + 52))
        self.refuses(BadOutput, 1, state)
        self.refuses(BadOutput, 0, state, pays=[key_output(5, 10 ** 12 + 1)])

    def test_first_phase(self):
        state = self.state
        state.use(50)
        self.refuses(Reused, 50, state, number=50)
        self.refuses(OutsideInterval, 0, state, begins=1)
        self.refuses(NotSigned, 5, state, also=[(0, 4)])
        self.refuses(MissingData, ("spend", (0, 1)), state, also=[(0, 1)])
        self.refuses(MissingData, ("mint", "true"), state, mint=[(TOKEN, 1)])
        self.refuses(NeedlessData, ("mint", "true"), state, data=[(("mint", "true"), [])])
        self.refuses(TooCostly, 2, state, **self.spending(1), params=Params(most_steps=1))
        self.built(state, **self.spending(1), signers=[7], params=Params(most_steps=2))
        # Also ahead of the verdicts.
        self.refuses(OutsideInterval, 0, state, begins=1, **self.spending(1))
        self.refuses(NotSigned, 5, state, also=[(0, 1), (0, 4)], data=[(("spend", (0, 1)), [])])

    def test_scripts_refuse(self):
        one, five = ("spend", (0, 1)), ("spend", (0, 5))
        self.refuses(ScriptsRefuse, ((one, False),), self.state, **self.spending(1))
        self.refuses(ScriptsRefuse, ((five, "fail"),), self.state, **self.spending(5))
        self.refuses(ScriptsRefuse, ((five, "fail"), (one, True)), self.state, **self.spending(5, 1), signers=[7])
        data = [(one, []), (("mint", "signed(4)"), []), (("mint", "signed(9)"), [])]
        self.refuses(ScriptsRefuse, ((one, True), (("mint", "signed(4)"), True), (("mint", "signed(9)"), False)), self.state,
                     also=[(0, 1)], mint=[(("signed(9)", 1), 1), (("signed(4)", 1), 1)], data=data, signers=[7])
        self.built(self.state, **self.spending(1), signers=[7])

    def test_state_with_forgotten_marks(self):
        self.state.forget(self.state.mark())
        self.built(self.state)
        self.built(self.state, **self.spending(1), signers=[7])


class MadeUpTest(Checks, unittest.TestCase):
    POLICIES = ["true", "signed(4)", "signed(5)", COUNTING, "begins", "head(redeemer) == 1"]

    def some_state(self, source):
        outputs = []
        for _ in range(source.randint(0, 10)):
            tokens = [((policy, 1), source.randint(1, 4)) for policy in source.sample(self.POLICIES[:3], source.choice([0, 0, 1, 2]))]
            if source.random() < 0.25:
                outputs.append(script_output(source.choice(self.POLICIES), source.randint(5, 60), *tokens))
            else:
                outputs.append(key_output(source.choice([4, 4, 4, 5]), source.choice([9, 15, 30, 60, 100, 300]), *tokens))
        return state_of(*outputs)

    def some_request(self, source, state):
        refs = state.unspent()
        also = source.sample(refs, min(len(refs), source.choice([0, 0, 0, 1, 2, 8])))
        pays = [key_output(source.randint(4, 6), source.randint(3, 60), *source.choice([[], [], [], [(("true", 1), 1)]]))
                for _ in range(source.choice([0, 1, 1, 2]))]
        mint = [((source.choice(self.POLICIES), 1), source.choice([1, 2, -1])) for _ in range(source.choice([0, 0, 1]))]
        draft = Transaction(number=1, spends=also, makes=[], fee=0, mint=mint)
        return {"key": 4, "number": source.choice([1, 1, 1, 1, 1, 1, 1, 7, 0]), "pays": pays, "mint": mint, "also": also,
                "data": [(purpose, [source.choice([1, 1, 2])]) for purpose in purposes(state, draft)],
                "looks": source.choice([[], [], refs[-1:], [(0, 50)]] if source.random() < 0.3 else [[]]),
                "signers": source.choice([[], [5], [5], [5, 5]] if source.random() < 0.9 else [[4]]),
                "begins": source.choice([0] * 9 + [3])}

    def test_made_up_requests(self):
        source = random.Random(12)
        seen = {}
        for _ in range(1500):
            state = self.some_state(source)
            state.use(7)
            params = Params(fee_step=source.choice([0, 2, 90]), pledge_rate=source.choice([0, 150, 300]),
                            most_steps=source.choice([20000, 20000, 1]))
            request = self.some_request(source, state)
            before, mark = state.picture(), state.mark()
            slow = SlowRequest(state, params, **request)
            answer = slow.answer()
            if isinstance(answer, tuple):
                self.fails(*answer, build, state, params, **request)
                if answer[0] is NotEnough:
                    self.assertFalse(slow.is_possible())
            else:
                tx = build(state, params, **request)
                self.assertEqual(tx.picture(), answer.picture())
                self.assertIs(apply_transaction(state, tx, params), True)
                state.rewind(mark)
                least = least_fee(tx, script_steps(state, tx), params)
                self.assertTrue(tx.fee == least or len(tx.makes) == len(request["pays"]))
            self.assertEqual((state.picture(), state.mark()), (before, mark))
            key = answer[0] if isinstance(answer, tuple) else "built"
            seen[key] = seen.get(key, 0) + 1
        for outcome in ("built", UnknownOutput, BadLock, NotEnough, NoPledge, Repeated, OutsideInterval, ScriptsRefuse, Reused,
                        BadNumber, TooCostly, NotSigned):
            self.assertGreater(seen.get(outcome, 0), 4, outcome)
        # These errors never come of what the wallet chooses.
        for outcome in (Unbalanced, FeeTooLow, BadFee):
            self.assertNotIn(outcome, seen)


if __name__ == "__main__":
    unittest.main()
