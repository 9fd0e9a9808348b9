"""keptcoin/node/node.py (11.12 to 11.17)."""

import random
import unittest

from keptcoin.chain.block import Block
from keptcoin.chain.chain import Chain
from keptcoin.errors import (
    AlreadyPending, BadBlock, BadBlockNumber, BadFee, BadNumber, BadSlot, BarredBlock, FeeTooLow, KnownBlock, NoSpends,
    OutsideInterval, PoolFull, Reused, TooDeep, TooManyTransactions, UnknownOutput, UnknownParent, WrongClaim,
)
from keptcoin.journal.records import line_of
from keptcoin.node.node import Node
from keptcoin.state.state import State
from keptcoin.tx.params import Params
from tests.helpers import Checks
from tests.ledger import key_output, paying, script_output, some_tx
from tests.model import SlowNode, played
from tests.play import GRANTS as PLAYED_GRANTS
from tests.play import RESERVE as PLAYED_RESERVE
from tests.play import Player

# At most 20 grants, so each of them comes apart into two outputs in the first block.
GRANTS = [(key, 2060) for key in range(20)]
RESERVE = 5000


def split(key):
    """Makes two outputs with a coin of 1000 and one with 20 of the grant of a key."""
    return some_tx(number=key + 100, spends=[(0, key)], fee=40, signers=[key],
                   makes=[key_output(key, 1000), key_output(key, 1000), key_output(key, 20)])


def own(number, at, coin=1000, fee=30, **fields):
    """A transaction that pays the coin of the output with index `at` of the 40 ones back to its key."""
    return paying(number, (100 + at % 20, at // 20), at % 20, coin, fee, **fields)


class NodeCase(Checks, unittest.TestCase):
    def setUp(self, **params):
        self.params = Params(**params)
        self.node = Node(params=self.params, grants=GRANTS, reserve=RESERVE)
        self.lines = []
        self.slots = {0: 0}
        self.offer(1, 0, txs=[split(key) for key in range(20)])

    def offer(self, number, parent, slot=None, txs=()):
        slot = self.slots[parent] + 1 if slot is None else slot
        self.slots[number] = slot
        block = Block(number=number, parent=parent, slot=slot, txs=txs)
        self.lines.append(line_of("offer", block.picture()))
        answer = self.node.offer(block)
        self.check()
        return answer

    def submit(self, tx):
        self.lines.append(line_of("submit", tx.picture()))
        state, mark = self.node.state.picture(), self.node.state.mark()
        answer = self.node.submit(tx)
        self.assertEqual((self.node.state.picture(), self.node.state.mark()), (state, mark))
        self.check()
        return answer

    def check(self):
        """What always holds."""
        self.assertIs(self.node.state, self.node.chain.state)
        self.assertEqual(self.node.journal, "".join([line + "\n" for line in self.lines]))
        self.assertEqual(self.node.picture(),
                         (self.node.chain.picture(), tuple([tx.picture() for tx in self.node.waiting()])))
        model = played(GRANTS, RESERVE, self.node.chain.blocks(), self.params)
        self.assertEqual(self.node.state.picture(), model.picture())
        self.assertLessEqual(len(self.node.waiting()), 30)
        for tx in self.node.waiting():
            model.apply(tx.picture(), self.params)

    def refused(self, error, what, tx):
        """The transaction does not wait, and nothing changes but the journal."""
        before, mark = self.node.picture(), self.node.state.mark()
        self.lines.append(line_of("submit", tx.picture()))
        self.fails(error, what, self.node.submit, tx)
        self.assertEqual((self.node.picture(), self.node.state.mark()), (before, mark))
        self.check()

    def refused_block(self, error, what, block):
        """The block is refused by a rule, and nothing changes but the journal."""
        before, mark = self.node.picture(), self.node.state.mark()
        self.lines.append(line_of("offer", block.picture()))
        self.fails(error, what, self.node.offer, block)
        self.assertEqual((self.node.picture(), self.node.state.mark()), (before, mark))
        self.check()

    def waits(self, *numbers):
        """These transactions wait, in this order."""
        self.assertEqual([tx.number for tx in self.node.waiting()], [*numbers])


class FirstDayTest(unittest.TestCase):
    def test_new_node(self):
        node = Node(params=Params(), grants=[(3, 50)], reserve=7)
        self.assertIsInstance(node.chain, Chain)
        self.assertIs(node.state, node.chain.state)
        self.assertEqual((node.journal, node.waiting()), ("", []))
        self.assertEqual(node.picture(), (((0,), State([(3, 50)], 7).picture(), (), ()), ()))


class SubmitTest(NodeCase):
    def test_waiting_ones_stand_in_order(self):
        for number, at in [(9, 3), (2, 0), (5, 39)]:
            self.assertIs(self.submit(own(number, at)), True)
        self.waits(9, 2, 5)
        self.assertEqual(self.node.picture()[1], (own(9, 3).picture(), own(2, 0).picture(), own(5, 39).picture()))

    def test_same_number(self):
        self.submit(own(9, 3))
        self.submit(own(8, 4))
        for tx in (own(9, 3), own(9, 5), some_tx(number=9, spends=[]), own(8, 4, fee=1), own(8, 3)):
            self.refused(AlreadyPending, tx.number, tx)
        self.waits(9, 8)

    def test_number_that_is_used_or_bad(self):
        self.refused(Reused, 103, own(103, 0))
        self.refused(BadNumber, 0, own(0, 0))
        self.refused(BadNumber, 10 ** 9 + 1, own(10 ** 9 + 1, 0))

    def test_full_pool(self):
        for at in range(30):
            self.assertIs(self.submit(own(at + 1, at)), True)
        self.waits(*range(1, 31))
        for tx in (own(31, 30), own(103, 31), some_tx(number=31, spends=[])):
            self.refused(PoolFull, None, tx)
        # The number is looked at first.
        self.refused(AlreadyPending, 30, own(30, 31))
        self.assertEqual(self.offer(2, 1, txs=[own(7, 6)]), "extended")
        self.waits(*range(1, 7), *range(8, 31))
        self.assertIs(self.submit(own(31, 30)), True)
        self.refused(PoolFull, None, own(32, 31))

    def test_errors_of_shape_and_of_the_first_phase(self):
        self.refused(NoSpends, None, some_tx(number=1, spends=[]))
        self.refused(BadFee, -1, own(1, 0, fee=-1))
        self.refused(FeeTooLow, 17, own(1, 0, fee=16))
        self.refused(OutsideInterval, 1, own(1, 0, begins=2))
        self.refused(UnknownOutput, (0, 0), paying(1, (0, 0), 0, 2060))
        # Errors of shape come ahead of those of the first phase, and those ahead of a wrong claim.
        self.refused(BadFee, -1, own(103, 0, fee=-1))
        self.refused(FeeTooLow, 17, own(1, 0, fee=16, approved=False))
        self.refused(WrongClaim, (), own(1, 0, approved=False))
        self.waits()

    def test_one_rests_on_a_waiting_one(self):
        tx = paying(2, (1, 0), 0, 970)
        self.refused(UnknownOutput, (1, 0), tx)
        self.submit(own(1, 0))
        self.refused(UnknownOutput, (100, 0), own(3, 0))
        self.assertIs(self.submit(tx), True)
        self.refused(UnknownOutput, (1, 0), paying(3, (1, 0), 0, 970))
        self.assertIs(self.submit(paying(3, (2, 0), 0, 940)), True)
        self.waits(1, 2, 3)

    def lock(self):
        """Makes a waiting output that opens for nobody."""
        self.submit(some_tx(number=40, spends=[(100, 0)], makes=[script_output("signed(77)", 970)], fee=30, signers=[0]))

    def unapproved(self, number, **fields):
        return some_tx(**{"number": number, "spends": [(40, 0)], "makes": [key_output(0, 930)], "fee": 40, "signers": [3],
                          "pledge": [(103, 0)], "data": [(("spend", (40, 0)), [])], "approved": False, **fields})

    def test_not_approved_ones_wait_too(self):
        self.lock()
        told = ((("spend", (40, 0)), False),)
        self.refused(WrongClaim, told, self.unapproved(41, approved=True))
        self.assertIs(self.submit(self.unapproved(41)), False)
        self.waits(40, 41)
        # Its pledge is gone behind it, and what it was to spend is not.
        self.refused(UnknownOutput, (103, 0), own(42, 3))
        self.refused(UnknownOutput, (103, 0), self.unapproved(42))
        self.assertIs(self.submit(self.unapproved(42, pledge=[(103, 1)])), False)
        self.assertEqual(self.offer(2, 1, txs=self.node.waiting()), "extended")
        self.waits()
        self.assertEqual(self.node.state.fees, 30 + 2000 + 20 * 40)

    def test_claims_are_judged_behind_the_waiting_ones(self):
        # What the policy permits hangs on the transaction alone, but its output has to be there.
        self.refused(UnknownOutput, (40, 0), self.unapproved(41))
        self.lock()
        self.assertIs(self.submit(self.unapproved(41)), False)

    def test_waiting_is_a_copy(self):
        self.submit(own(1, 0))
        found = self.node.waiting()
        self.assertIsInstance(found, list)
        found.append(own(2, 1))
        del found[0]
        self.waits(1)

    def test_transactions_stay(self):
        tx = own(1, 0)
        before = tx.picture()
        self.submit(tx)
        self.offer(2, 1, txs=[tx])
        self.assertEqual(tx.picture(), before)


class OfferTest(NodeCase):
    def test_kept_ones_and_refused_ones_leave_the_pool(self):
        self.offer(2, 1)
        txs = [own(at + 1, at, begins=1) for at in range(5)]
        for tx in txs:
            self.submit(tx)
        before = self.node.picture()[1]
        self.assertEqual(self.offer(3, 1, txs=txs[:2]), "kept")
        for error, what, block in [
            (BadBlockNumber, 0, Block(number=0, parent=2, slot=9)), (KnownBlock, 3, Block(number=3, parent=2, slot=9)),
            (UnknownParent, 7, Block(number=8, parent=7, slot=9)), (BadSlot, 2, Block(number=8, parent=2, slot=2)),
            (TooManyTransactions, 8, Block(number=8, parent=2, slot=9, txs=txs * 5)),
        ]:
            self.refused_block(error, what, block)
        self.assertEqual(self.node.picture()[1], before)
        self.assertEqual(self.node.chain.path(), [0, 1, 2])

    def bad(self, what, block):
        """The block makes a block known that is bad; the pool and the current branch stay."""
        before, mark = self.node.picture(), self.node.state.mark()
        self.lines.append(line_of("offer", block.picture()))
        self.fails(BadBlock, what, self.node.offer, block)
        self.check()
        self.assertEqual((self.node.picture()[0][:2], self.node.picture()[1], self.node.state.mark()),
                         (before[0][:2], before[1], mark))

    def test_bad_blocks_leave_the_pool(self):
        txs = [own(at + 1, at) for at in range(5)]
        for tx in txs:
            self.submit(tx)
        self.bad((2, 1), Block(number=2, parent=1, slot=2, txs=[txs[0], txs[0]]))
        self.refused_block(BarredBlock, 2, Block(number=2, parent=1, slot=2))
        self.offer(3, 1, txs=txs[:1])
        self.offer(4, 3)
        self.waits(2, 3, 4, 5)
        self.offer(13, 1, txs=[txs[1], own(103, 7)])
        self.offer(14, 13)
        self.bad((13, 1), Block(number=15, parent=14, slot=9, txs=txs[2:]))
        self.waits(2, 3, 4, 5)
        self.assertEqual(self.node.chain.picture()[2:], ((1, 3, 4), (2, 13, 14, 15)))

    def test_too_deep(self):
        self.setUp(depth=1)
        self.offer(2, 1)
        self.offer(3, 2)
        self.submit(own(1, 0))
        for parent in (0, 1):
            self.refused_block(TooDeep, parent, Block(number=9, parent=parent, slot=self.slots[parent] + 3))
        self.assertEqual(self.offer(4, 2, txs=[own(1, 0)]), "kept")
        self.waits(1)

    def test_extending_takes_out_what_fits_no_more(self):
        for number, at, fields in [(1, 0, {}), (2, 1, {"ends": 1}), (3, 2, {}), (4, 3, {"ends": 2}), (5, 4, {"ends": 3})]:
            self.submit(own(number, at, **fields))
        self.submit(paying(6, (2, 0), 1, 970))
        self.submit(paying(7, (3, 0), 2, 970))
        self.waits(1, 2, 3, 4, 5, 6, 7)
        # The first one stands in the block; the second one comes too late, so the one that rests on it goes, too.
        self.assertEqual(self.offer(2, 1, slot=2, txs=[own(1, 0)]), "extended")
        self.waits(3, 4, 5, 7)
        # Another transaction with the same number, and another one that spends the same output.
        self.assertEqual(self.offer(3, 2, slot=3, txs=[own(3, 20), own(50, 7)]), "extended")
        self.waits(5)
        self.assertEqual(self.offer(4, 3, slot=4), "extended")
        self.waits()

    def test_switch_brings_transactions_back(self):
        self.offer(2, 1, txs=[own(1, 0), own(2, 1)])
        self.offer(3, 2, txs=[own(3, 2), paying(4, (1, 0), 0, 970)])
        self.submit(own(5, 4))
        self.submit(paying(6, (3, 0), 2, 970))
        self.offer(12, 1)
        self.offer(13, 12)
        self.waits(5, 6)
        self.assertEqual(self.offer(14, 13), "switched")
        # First those of the blocks that left, the lowest block first, then those that waited.
        self.waits(1, 2, 3, 4, 5, 6)
        self.assertEqual(self.offer(15, 14, txs=[own(5, 4)]), "extended")
        self.waits(1, 2, 3, 4, 6)

    def test_order_of_what_comes_back(self):
        self.offer(9, 1, txs=[own(30, 0), own(2, 1)])
        self.offer(3, 9, txs=[own(31, 2)])
        self.submit(own(1, 4))
        self.offer(12, 1)
        self.offer(13, 12)
        self.offer(14, 13)
        self.waits(30, 2, 31, 1)

    def test_transactions_on_both_branches(self):
        self.offer(2, 1, txs=[own(1, 0), own(2, 1), own(3, 2)])
        self.submit(own(4, 3))
        self.submit(own(5, 4))
        self.offer(12, 1, txs=[own(2, 1), own(4, 3)])
        self.waits(4, 5)
        self.assertEqual(self.offer(13, 12, txs=[own(7, 2)]), "switched")
        # 2 and 4 stand on the new branch, and the output of 3 is spent there.
        self.waits(1, 5)
        # And back again.
        self.offer(3, 2, txs=[own(5, 4)])
        self.assertEqual(self.offer(4, 3), "switched")
        self.waits(4)

    def test_what_comes_back_goes_before_what_waits(self):
        self.offer(2, 1, txs=[own(1, 0)])
        # Both have one number, and both are good on the branch where the other one is not.
        self.refused(Reused, 1, own(1, 1))
        self.offer(12, 1)
        self.offer(13, 12)
        self.waits(1)
        self.assertEqual(self.node.waiting()[0].picture(), own(1, 0).picture())
        self.offer(3, 2, txs=[own(8, 8)])
        self.submit(own(2, 8))
        self.assertEqual(self.offer(4, 3), "switched")
        self.waits()

    def test_intervals_on_the_new_branch(self):
        self.offer(2, 1, txs=[own(1, 0, ends=2), own(2, 1, ends=3)])
        self.offer(12, 1)
        self.assertEqual(self.offer(13, 12), "switched")
        self.waits(2)

    def test_not_approved_ones_come_back(self):
        lock = some_tx(number=40, spends=[(100, 0)], makes=[script_output("signed(77)", 970)], fee=30, signers=[0])
        unapproved = some_tx(number=41, spends=[(40, 0)], makes=[key_output(0, 930)], fee=40, signers=[3], pledge=[(103, 0)],
                             data=[(("spend", (40, 0)), [])], approved=False)
        self.offer(2, 1, txs=[lock, unapproved])
        self.offer(12, 1)
        self.assertEqual(self.offer(13, 12), "switched")
        self.waits(40, 41)
        self.offer(14, 13, txs=[own(1, 3)])
        self.waits(40)

    def test_more_than_thirty(self):
        self.offer(2, 1, txs=[own(at + 1, at) for at in range(10)])
        for at in range(10, 35):
            self.submit(own(at + 1, at))
        self.assertEqual(len(self.node.waiting()), 25)
        self.offer(12, 1)
        self.assertEqual(self.offer(13, 12), "switched")
        self.waits(*range(1, 31))
        self.refused(PoolFull, None, own(90, 36))

    def test_more_than_thirty_of_which_some_fit_no_more(self):
        self.offer(2, 1, txs=[own(at + 1, at) for at in range(10)])
        for at in range(10, 35):
            self.submit(own(at + 1, at))
        self.offer(12, 1, txs=[own(70, 3), own(71, 12)])
        self.assertEqual(self.offer(13, 12), "switched")
        self.waits(*[number for number in range(1, 33) if number not in (4, 13)])

    def test_answers_are_words(self):
        for number, parent, word in [(2, 1, "extended"), (3, 1, "kept"), (4, 3, "switched")]:
            answer = self.offer(number, parent)
            self.assertIsInstance(answer, str)
            self.assertEqual(answer, word)


class ForgeTest(NodeCase):
    def forge(self, number, slot):
        """Forges a block, which changes nothing."""
        before = (self.node.picture(), self.node.state.mark(), self.node.journal)
        block = self.node.make_block(number, slot)
        self.assertEqual((self.node.picture(), self.node.state.mark(), self.node.journal), before)
        self.assertIsInstance(block, Block)
        self.assertEqual((block.number, block.parent, block.slot), (number, self.node.chain.tip, slot))
        return block

    def refuses(self, error, what, number, slot):
        before = (self.node.picture(), self.node.state.mark(), self.node.journal)
        self.fails(error, what, self.node.make_block, number, slot)
        self.assertEqual((self.node.picture(), self.node.state.mark(), self.node.journal), before)

    def test_empty_pool(self):
        self.assertEqual(self.forge(7, 5).picture(), (7, 1, 5, ()))
        node = Node(params=self.params, grants=GRANTS, reserve=RESERVE)
        self.assertEqual(node.make_block(7, 5).picture(), (7, 0, 5, ()))

    def test_waiting_ones_are_taken(self):
        for number, at in [(9, 3), (2, 0), (5, 39)]:
            self.submit(own(number, at))
        block = self.forge(7, 5)
        self.assertEqual(block.picture(), (7, 1, 5, (own(9, 3).picture(), own(2, 0).picture(), own(5, 39).picture())))
        self.lines.append(line_of("offer", block.picture()))
        self.assertEqual(self.node.offer(block), "extended")
        self.check()
        self.waits()

    def test_more_than_twenty(self):
        for at in range(25):
            self.submit(own(at + 1, at))
            self.assertEqual([tx.number for tx in self.forge(7, 5).txs], [*range(1, min(at + 2, 21))])
        self.assertEqual(self.node.offer(self.forge(7, 5)), "extended")
        self.waits(*range(21, 26))

    def test_intervals(self):
        for number, at, fields in [(1, 0, {"ends": 4}), (2, 1, {"ends": 5}), (3, 2, {"ends": 6}), (4, 3, {})]:
            self.submit(own(number, at, **fields))
        self.submit(paying(5, (1, 0), 0, 970))
        self.submit(paying(6, (3, 0), 2, 970))
        for slot, numbers in [(2, [1, 2, 3, 4, 5, 6]), (4, [1, 2, 3, 4, 5, 6]), (5, [2, 3, 4, 6]), (6, [3, 4, 6]), (7, [4])]:
            self.assertEqual([tx.number for tx in self.forge(7, slot).txs], numbers)
        # Those that do not fit do not count.
        for at in range(10, 30):
            self.submit(own(at + 1, at))
        self.assertEqual([tx.number for tx in self.forge(7, 7).txs], [4, *range(11, 30)])
        self.assertEqual([tx.number for tx in self.forge(7, 5).txs], [2, 3, 4, 6, *range(11, 27)])

    def test_over_the_ends_of_epochs(self):
        join = own(1, 0, coin=980, deeds=[("join", 0)])
        self.assertEqual(self.offer(2, 1, slot=5, txs=[join]), "extended")
        self.assertEqual(self.offer(3, 2, slot=15), "extended")
        self.assertEqual(self.offer(4, 3, slot=25), "extended")
        reward = self.node.state.account(0)[1]
        self.assertGreater(reward, 0)
        # It draws all its reward and leaves, which it may do until the next end of an epoch gives it more.
        leave = some_tx(number=2, spends=[(1, 0)], makes=[key_output(0, 950 + reward + 20 - 40)],
                        fee=40, signers=[0], deeds=[("leave", 0)], draws=[(0, reward)])
        self.assertIs(self.submit(leave), True)
        self.assertIs(self.submit(own(3, 4)), True)
        for slot, numbers in [(26, [2, 3]), (29, [2, 3]), (30, [3]), (65, [3])]:
            block = self.forge(7, slot)
            self.assertEqual([tx.number for tx in block.txs], numbers)
            other = Node(params=self.params, grants=GRANTS, reserve=RESERVE)
            for known in self.node.chain.blocks():
                other.offer(known)
            self.assertEqual(other.offer(block), "extended")

    def test_not_approved_ones_are_taken(self):
        lock = some_tx(number=40, spends=[(100, 0)], makes=[script_output("signed(77)", 970)], fee=30, signers=[0])
        unapproved = some_tx(number=41, spends=[(40, 0)], makes=[key_output(0, 930)], fee=40, signers=[3], pledge=[(103, 0)],
                             data=[(("spend", (40, 0)), [])], approved=False)
        self.submit(lock)
        self.submit(unapproved)
        self.assertEqual([tx.number for tx in self.forge(7, 5).txs], [40, 41])

    def test_errors(self):
        self.offer(5, 1)
        self.submit(own(1, 0))
        bad = Block(number=6, parent=5, slot=9, txs=[own(2, 0), own(3, 0)])
        with self.assertRaises(BadBlock):
            self.node.offer(bad)
        for number in (0, -3, 10 ** 9 + 1):
            self.refuses(BadBlockNumber, number, number, 9)
        for number in (1, 5):
            self.refuses(KnownBlock, number, number, 9)
        self.refuses(BarredBlock, 6, 6, 9)
        for slot in (2, 1, 0, -1, 43, 10 ** 9):
            self.refuses(BadSlot, slot, 7, slot)
        for slot in (3, 42):
            self.forge(7, slot)
        self.forge(10 ** 9, 3)
        # Two at once.
        self.refuses(BadBlockNumber, 0, 0, 0)
        self.refuses(KnownBlock, 5, 5, 0)
        self.refuses(BarredBlock, 6, 6, 0)

    def test_block_is_not_offered(self):
        self.forge(7, 5)
        self.assertEqual(self.offer(7, 1), "extended")


class JournalTest(NodeCase):
    def test_other_calls_leave_the_journal(self):
        self.submit(own(1, 0))
        before = self.node.journal
        self.node.waiting()
        self.node.picture()
        self.node.make_block(9, 5)
        self.fails(BadSlot, 0, self.node.make_block, 9, 0)
        self.assertEqual(self.node.journal, before)

    def test_lines(self):
        node = Node(params=Params(), grants=GRANTS, reserve=RESERVE)
        tx = paying(7, (0, 4), 4, 2060, fee=20)
        node.submit(tx)
        picture = "(7 ((0 4)) () () (((3:key 4) (((0: 0) 2040)) ())) () 20 0 1000000000 (4) () () () T)"
        self.assertEqual(node.journal, f"submit {picture}\n")
        node.offer(Block(number=3, parent=0, slot=2))
        self.assertEqual(node.journal, f"submit {picture}\noffer (3 0 2 ())\n")
        self.fails(UnknownParent, 8, node.offer, Block(number=4, parent=8, slot=2, txs=[tx]))
        self.assertEqual(node.journal, f"submit {picture}\noffer (3 0 2 ())\noffer (4 8 2 ({picture}))\n")


class MadeUpTest(Checks, unittest.TestCase):
    def test_against_the_slow_node(self):
        source = random.Random(5)
        seen = {}
        for _ in range(8):
            params = Params(depth=source.choice([0, 1, 4]), epoch_length=source.choice([2, 4, 10]))
            node = Node(params=params, grants=PLAYED_GRANTS, reserve=PLAYED_RESERVE)
            slow = SlowNode(params, PLAYED_GRANTS, PLAYED_RESERVE)
            player = Player(source, node, params)
            done = 0
            for _ in range(40):
                player.turn()
                for (word, item), answer in list(zip(player.calls, player.answers))[done:]:
                    expected = slow.submit(item) if word == "submit" else slow.offer(item)
                    self.assertEqual(answer, expected)
                    key = answer if isinstance(answer, (bool, str)) else answer[0]
                    seen[key] = seen.get(key, 0) + 1
                done = len(player.calls)
                self.assertEqual(node.picture(), slow.picture())
                number, slot = source.choice([(10 ** 7, node.state.slot + 3), (5, source.randint(0, 50)), (0, 5)])
                self.same_block(node, slow, number, slot)
        for outcome in (True, False, "kept", "extended", "switched", BadBlock, AlreadyPending, WrongClaim):
            self.assertGreater(seen.get(outcome, 0), 0, outcome)

    def same_block(self, node, slow, number, slot):
        before = (node.picture(), node.journal)
        expected = slow.make_block(number, slot)
        if len(expected) == 2:
            self.fails(*expected, node.make_block, number, slot)
        else:
            self.assertEqual(node.make_block(number, slot).picture(), expected)
        self.assertEqual((node.picture(), node.journal), before)

    def test_two_nodes_beside_each_other(self):
        nodes = [Node(params=Params(), grants=GRANTS, reserve=RESERVE) for _ in range(2)]
        tx = paying(1, (0, 1), 1, 2060)
        block = Block(number=1, parent=0, slot=1, txs=[tx])
        first = nodes[1].picture()
        nodes[0].submit(tx)
        self.assertEqual((nodes[1].picture(), nodes[1].journal), (first, ""))
        nodes[0].offer(block)
        self.assertEqual((nodes[1].picture(), nodes[1].journal), (first, ""))
        second = nodes[0].picture()
        nodes[1].submit(paying(1, (0, 2), 2, 2060))
        nodes[1].offer(Block(number=1, parent=0, slot=2))
        self.assertEqual(nodes[0].picture(), second)
        self.assertEqual([tx.spends for tx in nodes[1].waiting()], [((0, 2),)])


if __name__ == "__main__":
    unittest.main()
