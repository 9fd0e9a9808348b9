"""keptcoin/chain/apply.py (11.2)."""

import itertools
import unittest

from keptcoin.chain.apply import apply_block
from keptcoin.chain.block import Block
from keptcoin.errors import BadBlock, BadSlot
from keptcoin.state.state import State
from keptcoin.tx.params import Params
from tests.helpers import Checks
from tests.ledger import key_output, script_output, some_tx
from tests.model import Model

PARAMS = Params()
REFUSED = [{"number": 0}, {"fee": 0}, {"spends": [(9, 9)]}, {"signers": []}, {"approved": False}, {"begins": 34},
           {"spends": []}, {"makes": [key_output(1, 100)]}]


class ApplyBlockTest(Checks, unittest.TestCase):
    def setUp(self):
        self.state = State([(at, 100) for at in range(8)], 1000)
        for at in range(4):
            self.state.add_output((50, at), script_output("signed(7)", 100))
        self.state.use(50)
        self.state.set_account(3, (20, 0))

    def approved(self, number, key, **more):
        """A transaction that pays with the grant of a key."""
        fields = {"spends": [(0, key)], "makes": [key_output(key, 70)], "fee": 30, "signers": [key], **more}
        return some_tx(number=number, **fields)

    def unapproved(self, number, at, key):
        """A transaction whose script refuses; the pledge is the grant of a key."""
        return some_tx(number=number, spends=[(50, at)], makes=[key_output(9, 40)], fee=60, pledge=[(0, key)],
                       signers=[key], data=[(("spend", (50, at)), [])], approved=False)

    def refused(self, what, block, params=PARAMS, error=BadBlock):
        before, mark, picture = self.state.picture(), self.state.mark(), block.picture()
        self.fails(error, what, apply_block, self.state, block, params)
        self.assertEqual((self.state.picture(), self.state.mark(), block.picture()), (before, mark, picture))

    def applied(self, block, params=PARAMS):
        model, picture, total = Model.of_state(self.state), block.picture(), self.state.total().rows
        model.apply_block(picture, params)
        found = apply_block(self.state, block, params)
        self.assertEqual(self.state.picture(), model.picture())
        self.assertEqual((block.picture(), self.state.total().rows), (picture, total))
        self.assertEqual(found, [tx.approved for tx in block.txs])
        self.assertIsInstance(found, list)
        for answer in found:
            self.assertIsInstance(answer, bool)

    def test_no_transaction(self):
        self.applied(Block(number=1, parent=0, slot=3))
        self.assertEqual((self.state.slot, self.state.epoch), (3, 0))

    def test_parent_and_number_do_not_matter(self):
        self.applied(Block(number=-4, parent=77, slot=3, txs=[self.approved(1, 2)]))

    def test_approved_and_not_approved(self):
        for answers in itertools.product([True, False], repeat=3):
            self.setUp()
            txs = [self.approved(at + 1, at) if answer else self.unapproved(at + 1, at, at)
                   for at, answer in enumerate(answers)]
            self.applied(Block(number=1, parent=0, slot=3, txs=txs))

    def test_one_rests_on_another(self):
        txs = [self.approved(1, 2), self.approved(2, 2, spends=[(1, 0)], makes=[key_output(2, 40)]),
               self.approved(3, 2, spends=[(2, 0)], makes=[key_output(4, 10)])]
        self.applied(Block(number=1, parent=0, slot=3, txs=txs))
        self.setUp()
        self.refused((1, 0), Block(number=1, parent=0, slot=3, txs=txs[1:]))
        self.refused((1, 1), Block(number=1, parent=0, slot=3, txs=[txs[0], txs[2], txs[1]]))

    def test_clock_comes_first(self):
        # The transaction may stand in the slot of the block alone.
        self.refused((6, 0), Block(number=6, parent=0, slot=24, txs=[self.approved(1, 2, begins=25, ends=25)]))
        self.refused((6, 0), Block(number=6, parent=0, slot=26, txs=[self.approved(1, 2, begins=25, ends=25)]))
        self.applied(Block(number=6, parent=0, slot=25, txs=[self.approved(1, 2, begins=25, ends=25)]))
        self.assertEqual(self.state.epoch, 2)

    def test_rewards_of_ended_epochs_can_be_drawn(self):
        # At the second end the key 3 gets the growth of 47, which is 5 parts in 100 of 950.
        tx = self.approved(1, 3, draws=[(3, 47)], makes=[key_output(3, 117)])
        self.refused((6, 0), Block(number=6, parent=0, slot=19, txs=[tx]))
        self.applied(Block(number=6, parent=0, slot=20, txs=[tx]))
        self.assertEqual(self.state.account(3), (20, 0))

    def test_refused_at_each_place(self):
        for place in range(3):
            for fields in REFUSED:
                txs = [self.approved(1, 1), self.unapproved(2, 1, 2), self.approved(3, 3)]
                txs.insert(place, self.approved(**{"number": 9, "key": 4, **fields}))
                self.refused((7, place), Block(number=7, parent=0, slot=3, txs=txs))
                self.refused((7, place), Block(number=7, parent=0, slot=33, txs=txs))

    def test_first_refused_one_counts(self):
        txs = [self.approved(1, 1), self.approved(2, 2, fee=0), self.approved(1, 3), self.approved(0, 4)]
        self.refused((7, 1), Block(number=7, parent=0, slot=3, txs=txs))
        self.refused((7, 1), Block(number=7, parent=0, slot=3, txs=[txs[0], *txs[2:]]))

    def test_same_transaction_twice(self):
        self.refused((7, 1), Block(number=7, parent=0, slot=3, txs=[self.approved(1, 1), self.approved(1, 1)]))
        self.applied(Block(number=7, parent=0, slot=3, txs=[self.approved(1, 1)]))
        self.refused((8, 0), Block(number=8, parent=7, slot=4, txs=[self.approved(1, 2)]))

    def test_slots(self):
        for slot in (0, -1, 41, 10 ** 9):
            self.refused(slot, Block(number=7, parent=0, slot=slot), error=BadSlot)
            # The slot comes before the transactions.
            self.refused(slot, Block(number=7, parent=0, slot=slot, txs=[self.approved(0, 1)]), error=BadSlot)
        self.applied(Block(number=7, parent=0, slot=40))
        self.refused(40, Block(number=8, parent=7, slot=40), error=BadSlot)
        self.refused(81, Block(number=8, parent=7, slot=81), error=BadSlot)
        self.applied(Block(number=8, parent=7, slot=41))
        self.applied(Block(number=9, parent=8, slot=50), Params(epoch_length=5))

    def test_many_transactions(self):
        # The count of the transactions is not looked at here.
        for at in range(30):
            self.state.add_output((60, at), key_output(at, 100))
        self.state.use(60)
        txs = [self.approved(at + 1, at, spends=[(60, at)]) for at in range(30)]
        self.applied(Block(number=7, parent=0, slot=3, txs=txs))

    def test_list_of_answers_is_new(self):
        block = Block(number=7, parent=0, slot=3, txs=[self.approved(1, 1)])
        mark = self.state.mark()
        apply_block(self.state, block, PARAMS).append(False)
        self.state.rewind(mark)
        self.assertEqual(apply_block(self.state, block, PARAMS), [True])


if __name__ == "__main__":
    unittest.main()
