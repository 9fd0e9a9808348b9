"""keptcoin/chain/chain.py (11.4 to 11.10)."""

import itertools
import random
import unittest

from keptcoin.chain.block import Block
from keptcoin.chain.chain import Chain
from keptcoin.errors import (
    BadBlock, BadBlockNumber, BadSlot, BarredBlock, KeptError, KnownBlock, TooDeep, TooManyTransactions, UnknownParent,
)
from keptcoin.state.state import State
from keptcoin.tx.params import Params
from tests.helpers import Checks
from tests.ledger import paying
from tests.model import SlowChain, played

GRANTS = [(key, 1000) for key in range(20)]
RESERVE = 5000


class ChainCase(Checks, unittest.TestCase):
    def setUp(self, **params):
        self.params = Params(**params)
        self.chain = Chain(self.params, GRANTS, RESERVE)
        self.offered = []

    def block(self, number, parent, slot=None, txs=()):
        """A block that stands as many slots behind the first day as its height says, if nothing else is said."""
        if slot is None:
            known = {block.number: block for block in self.offered}
            slot = known[parent].slot + 1 if parent else 1
        return Block(number=number, parent=parent, slot=slot, txs=txs)

    def offer(self, number, parent, slot=None, txs=()):
        block = self.block(number, parent, slot, txs)
        self.offered.append(block)
        answer = self.chain.offer(block)
        self.check()
        return answer

    def check(self):
        """What always holds."""
        path = self.chain.path()
        self.assertEqual((path[0], path[-1], len(path)), (0, self.chain.tip, self.chain.height + 1))
        self.assertEqual(self.chain.settled, max(0, self.chain.height - self.params.depth))
        self.assertEqual([block.number for block in self.chain.blocks()], path[1:])
        self.assertEqual([tx.picture() for tx in self.chain.transactions()],
                         [tx.picture() for block in self.chain.blocks() for tx in block.txs])
        model = played(GRANTS, RESERVE, self.chain.blocks(), self.params)
        self.assertEqual(self.chain.state.picture(), model.picture())
        self.assertEqual(self.chain.state.total().coin, 20 * 1000 + RESERVE)
        picture = self.chain.picture()
        self.assertEqual(picture[:2], (tuple(path), self.chain.state.picture()))
        self.assertEqual([*picture[2]], sorted(set(picture[2])))
        self.assertEqual([*picture[3]], sorted(set(picture[3])))
        self.assertEqual({*picture[2]} & {*picture[3]}, set())

    def refused(self, error, what, block):
        """The block is refused by a rule: nothing changes."""
        before, mark = self.chain.picture(), self.chain.state.mark()
        shown = (self.chain.tip, self.chain.height, self.chain.settled)
        self.fails(error, what, self.chain.check_offer, block)
        self.fails(error, what, self.chain.offer, block)
        self.assertEqual((self.chain.picture(), self.chain.state.mark()), (before, mark))
        self.assertEqual((self.chain.tip, self.chain.height, self.chain.settled), shown)


class FirstDayTest(ChainCase):
    def test_first_day(self):
        self.check()
        self.assertEqual((self.chain.path(), self.chain.tip, self.chain.height, self.chain.settled), ([0], 0, 0, 0))
        self.assertEqual((self.chain.blocks(), self.chain.transactions()), ([], []))
        self.assertEqual(self.chain.picture(), ((0,), State(GRANTS, RESERVE).picture(), (), ()))
        self.assertIsInstance(self.chain.state, State)

    def test_of_the_interface(self):
        chain = Chain(Params(), [(3, 500)], 0)
        self.assertEqual(chain.offer(Block(number=8, parent=0, slot=1)), ("extended", ()))
        self.assertEqual(chain.offer(Block(number=2, parent=0, slot=4)), ("kept", ()))
        self.assertEqual(chain.offer(Block(number=6, parent=2, slot=5)), ("switched", (8,)))
        self.assertEqual((chain.path(), chain.tip, chain.height, chain.settled), ([0, 2, 6], 6, 2, 0))

    def test_grants_are_copied(self):
        grants = list(GRANTS)
        chain = Chain(self.params, grants, RESERVE)
        grants.pop()
        chain.offer(Block(number=1, parent=0, slot=1))
        chain.offer(Block(number=2, parent=0, slot=1))
        chain.offer(Block(number=3, parent=2, slot=2))
        self.assertEqual(chain.state.unspent(), [(0, at) for at in range(20)])


class RulesTest(ChainCase):
    def setUp(self, **params):
        ChainCase.setUp(self, **params)
        for number, parent in [(1, 0), (2, 1), (3, 2)]:
            self.offer(number, parent, slot=10 * number)

    def test_numbers(self):
        for number in (0, -1, 10 ** 9 + 1, 10 ** 30):
            self.refused(BadBlockNumber, number, self.block(number, 3))
        for number in (10 ** 9, 4):
            self.assertEqual(self.offer(number, self.chain.tip)[0], "extended")

    def test_known_numbers(self):
        for number, parent in itertools.product((1, 2, 3), (0, 3)):
            self.refused(KnownBlock, number, self.block(number, parent))

    def test_barred_numbers(self):
        self.refused_bad()
        for parent in (0, 3):
            self.refused(BarredBlock, 9, self.block(9, parent))

    def refused_bad(self):
        """Bars the number 9."""
        block = Block(number=9, parent=3, slot=31, txs=[paying(0, (0, 0), 0, 1000)])
        self.chain.check_offer(block)
        self.fails(BadBlock, (9, 0), self.chain.offer, block)
        self.assertEqual(self.chain.picture()[3], (9,))

    def test_parents(self):
        self.refused_bad()
        for parent in (4, 9, -1, 10 ** 9 + 5):
            self.refused(UnknownParent, parent, self.block(7, parent, slot=5))

    def test_slots(self):
        for parent, start in [(3, 30), (2, 20), (0, 0)]:
            for slot in (start, start - 1, -5, start + 41, 10 ** 9):
                self.refused(BadSlot, slot, self.block(7, parent, slot))
            for slot in (start + 1, start + 40):
                self.assertIsNone(self.chain.check_offer(self.block(7, parent, slot)))
        self.assertEqual(self.offer(7, 3, 70), ("extended", ()))
        self.assertEqual(self.offer(8, 2, 21), ("kept", ()))

    def test_slots_and_lengths_of_epochs(self):
        for length in (2, 1000):
            chain = Chain(Params(epoch_length=length), GRANTS, RESERVE)
            for slot, good in [(0, False), (1, True), (4 * length, True), (4 * length + 1, False)]:
                if good:
                    self.assertIsNone(chain.check_offer(Block(number=7, parent=0, slot=slot)))
                else:
                    self.fails(BadSlot, slot, chain.check_offer, Block(number=7, parent=0, slot=slot))

    def test_counts_of_transactions(self):
        txs = [paying(at + 1, (0, at), at, 1000) for at in range(20)]
        for many in (21, 22, 200):
            more = txs + [paying(99, (0, 0), 0, 1000)] * (many - 20)
            self.refused(TooManyTransactions, 7, self.block(7, 3, txs=more))
        self.assertEqual(self.offer(7, 3, txs=txs), ("extended", ()))
        self.assertEqual(len(self.chain.transactions()), 20)

    def test_two_rules_at_once(self):
        self.refused_bad()
        many = [paying(at + 1, (0, at % 20), at % 20, 1000) for at in range(21)]
        for number, parent, slot, txs, error, what in [
            (0, 77, 1, (), BadBlockNumber, 0), (3, 77, 1, (), KnownBlock, 3), (9, 77, 1, (), BarredBlock, 9),
            (5, 77, 1, many, UnknownParent, 77), (5, 3, 30, many, BadSlot, 30), (3, 3, 30, many, KnownBlock, 3),
            (9, 3, 99, many, BarredBlock, 9), (5, 5, 31, (), UnknownParent, 5),
        ]:
            self.refused(error, what, Block(number=number, parent=parent, slot=slot, txs=txs))

    def test_refused_ones_are_neither_known_nor_barred(self):
        for slot, txs, error in [(30, (), BadSlot), (31, [paying(1, (0, 0), 0, 1000)] * 21, TooManyTransactions)]:
            with self.assertRaises(error):
                self.chain.offer(self.block(7, 3, slot, txs))
            self.assertEqual(self.chain.picture()[2:], ((1, 2, 3), ()))
        self.assertEqual(self.offer(7, 3), ("extended", ()))

    def test_transactions_are_not_looked_at_before(self):
        bad = [paying(0, (9, 9), 1, 50)]
        self.assertIsNone(self.chain.check_offer(self.block(7, 3, txs=bad)))
        self.assertEqual(self.offer(7, 2, txs=bad), ("kept", ()))


class DepthTest(ChainCase):
    def test_forks_at_the_settled_height(self):
        for depth in (0, 1, 2, 4, 7, 50):
            self.setUp(depth=depth)
            for number in range(1, 7):
                self.offer(number, number - 1)
            self.assertEqual(self.chain.settled, max(0, 6 - depth))
            for parent in range(7):
                block = self.block(50 + parent, parent)
                if parent < self.chain.settled:
                    self.refused(TooDeep, parent, block)
                else:
                    self.assertIsNone(self.chain.check_offer(block))

    def test_forks_of_side_branches(self):
        self.setUp(depth=2)
        for number, parent in [(1, 0), (2, 1), (21, 1), (31, 21), (3, 2)]:
            self.offer(number, parent)
        # The block 1 is settled now, and all forks from it are still good.
        self.assertEqual((self.chain.path(), self.chain.settled), ([0, 1, 21, 31], 1))
        self.refused(TooDeep, 0, self.block(60, 0))
        self.assertEqual(self.offer(4, 3), ("switched", (21, 31)))
        self.assertEqual(self.chain.settled, 2)
        for parent in (1, 21, 31):
            self.refused(TooDeep, parent, self.block(60, parent))
        self.assertEqual(self.offer(41, 2), ("kept", ()))
        # All but the depth is looked at before.
        self.refused(BadSlot, 2, self.block(60, 31, slot=2))
        self.refused(TooManyTransactions, 60, self.block(60, 31, txs=[paying(1, (0, 0), 0, 1000)] * 21))

    def test_depth_of_zero(self):
        self.setUp(depth=0)
        for number in range(1, 5):
            self.assertEqual(self.offer(number, number - 1), ("extended", ()))
            self.assertEqual(self.chain.settled, number)
            self.refused(TooDeep, number - 1, self.block(50, number - 1))
        bad = self.block(9, 4, txs=[paying(1, (0, 0), 0, 1000), paying(0, (0, 1), 1, 1000)])
        self.fails(BadBlock, (9, 1), self.chain.offer, bad)
        self.check()

    def test_deep_switch(self):
        self.setUp(depth=50)
        for number in range(1, 41):
            self.offer(number, number - 1, txs=[paying(number, (0, number % 20), number % 20, 1000)] if number < 21 else ())
        for number in range(101, 141):
            self.assertEqual(self.offer(number, number - 1 if number > 101 else 0), ("kept", ()))
        self.assertEqual(self.offer(141, 140), ("switched", tuple(range(1, 41))))
        self.assertEqual(self.chain.transactions(), [])
        self.assertEqual(self.offer(41, 40), ("kept", ()))
        self.assertEqual(self.offer(42, 41), ("switched", tuple(range(101, 142))))
        self.assertEqual(len(self.chain.transactions()), 20)


class FollowTest(ChainCase):
    def test_extending(self):
        for number, parent in [(5, 0), (3, 5), (9, 3)]:
            self.assertEqual(self.offer(number, parent, txs=[paying(number, (0, number), number, 1000)]), ("extended", ()))
        self.assertEqual(self.chain.path(), [0, 5, 3, 9])
        self.assertEqual([tx.number for tx in self.chain.transactions()], [5, 3, 9])

    def test_keeping(self):
        self.offer(1, 0, txs=[paying(1, (0, 1), 1, 1000)])
        self.offer(2, 1)
        for number, parent in [(3, 0), (4, 1), (5, 3), (6, 0)]:
            state = self.chain.state.picture()
            self.assertEqual(self.offer(number, parent, txs=[paying(number, (0, number), number, 1000)]), ("kept", ()))
            self.assertEqual((self.chain.path(), self.chain.state.picture()), ([0, 1, 2], state))
        self.assertEqual(self.chain.picture()[2:], ((1, 2, 3, 4, 5, 6), ()))

    def test_switching_over_one_block(self):
        self.offer(1, 0, txs=[paying(1, (0, 1), 1, 1000)])
        self.offer(2, 0, txs=[paying(2, (0, 1), 1, 1000, fee=50)])
        self.assertEqual(self.offer(3, 2), ("switched", (1,)))
        self.assertEqual([tx.number for tx in self.chain.transactions()], [2])
        self.assertEqual(self.offer(4, 1), ("kept", ()))
        self.assertEqual(self.offer(5, 4), ("switched", (2, 3)))
        self.assertEqual([tx.number for tx in self.chain.transactions()], [1])

    def test_switching_over_several_blocks(self):
        for number, parent in [(1, 0), (2, 1), (13, 2), (12, 13), (3, 1), (4, 3), (5, 4)]:
            self.offer(number, parent, txs=[paying(number, (0, number), number, 1000)])
        self.assertEqual(self.chain.path(), [0, 1, 2, 13, 12])
        # The numbers are told from the lowest block to the highest, whatever the numbers are.
        self.assertEqual(self.offer(6, 5), ("switched", (2, 13, 12)))
        self.assertEqual(self.chain.path(), [0, 1, 3, 4, 5, 6])
        self.assertEqual(self.offer(7, 6), ("extended", ()))

    def test_parents_that_are_not_the_tip(self):
        for number, parent in [(1, 0), (2, 1), (3, 2)]:
            self.offer(number, parent)
        for number, parent, answer in [(4, 0, ("kept", ())), (5, 1, ("kept", ())), (6, 2, ("kept", ())), (7, 5, ("kept", ())),
                                       (8, 7, ("switched", (2, 3))), (9, 6, ("kept", ())), (10, 9, ("switched", (5, 7, 8))),
                                       (11, 10, ("extended", ()))]:
            self.assertEqual(self.offer(number, parent), answer)
        self.assertEqual(self.chain.path(), [0, 1, 2, 6, 9, 10, 11])

    def test_epochs_on_both_branches(self):
        join = paying(1, (0, 1), 1, 980, deeds=[("join", 1)])
        self.offer(1, 0, 5, txs=[join])
        self.offer(2, 1, 25)
        self.offer(3, 1, 6)
        self.assertEqual(self.chain.state.epoch, 2)
        self.assertEqual(self.offer(4, 3, 9), ("switched", (2,)))
        self.assertEqual((self.chain.state.epoch, self.chain.state.slot), (0, 9))
        self.assertEqual(self.offer(5, 2, 26), ("kept", ()))
        self.assertEqual(self.offer(6, 5, 40), ("switched", (3, 4)))
        self.assertEqual((self.chain.state.epoch, self.chain.state.slot), (4, 40))
        self.assertGreater(self.chain.state.account(1)[1], 0)

    def test_answers_are_tuples(self):
        for answer in (self.chain.offer(Block(number=1, parent=0, slot=1)), self.chain.offer(Block(number=2, parent=0, slot=1)),
                       self.chain.offer(Block(number=3, parent=2, slot=2))):
            self.assertIsInstance(answer, tuple)
            self.assertIsInstance(answer[1], tuple)

    def test_lists_are_copies(self):
        self.offer(1, 0, txs=[paying(1, (0, 1), 1, 1000)])
        for found in (self.chain.path(), self.chain.blocks(), self.chain.transactions()):
            found.append(7)
            found.reverse()
        self.check()
        self.assertEqual(self.chain.path(), [0, 1])

    def test_state_stays_the_same_object(self):
        state = self.chain.state
        for number, parent in [(1, 0), (2, 0), (3, 2)]:
            self.offer(number, parent)
        self.assertIs(self.chain.state, state)


class BadBlockTest(ChainCase):
    def bad(self, what, number, parent, txs=()):
        """Offers a block, which makes a bad one known; state, branch and tip stay."""
        before = self.chain.picture()
        shown = (self.chain.tip, self.chain.height, self.chain.settled, self.chain.state.mark())
        block = self.block(number, parent, txs=txs)
        self.offered.append(block)
        self.chain.check_offer(block)
        picture = block.picture()
        self.fails(BadBlock, what, self.chain.offer, block)
        self.check()
        self.assertEqual(self.chain.picture()[:2], before[:2])
        self.assertEqual((self.chain.tip, self.chain.height, self.chain.settled, self.chain.state.mark()), shown)
        self.assertEqual(block.picture(), picture)
        self.assertIn(number, self.chain.picture()[3])
        return self.chain.picture()[2:]

    def test_bad_block_that_extends(self):
        self.offer(1, 0, txs=[paying(1, (0, 1), 1, 1000)])
        good = paying(5, (0, 5), 5, 1000)
        for number, txs, index in [(2, [good, paying(1, (0, 2), 2, 1000)], 1), (3, [paying(0, (0, 2), 2, 1000), good], 0),
                                   (4, [good, good], 1), (5, [good, paying(6, (0, 1), 1, 1000)], 1)]:
            known = self.bad((number, index), number, 1, txs)
            self.assertEqual(known, ((1,), tuple(range(2, number + 1))))
        self.fails(BarredBlock, 2, self.chain.offer, self.block(2, 1))
        self.fails(UnknownParent, 2, self.chain.offer, self.block(7, 2))
        self.assertEqual(self.offer(7, 1, txs=[good]), ("extended", ()))

    def branch(self, *bad):
        """A current branch 1 to 4, and beside it 12 to 14 on the block 1, of which these blocks are bad."""
        for number in range(1, 5):
            self.offer(number, number - 1, txs=[paying(number, (0, number), number, 1000)])
        for number, parent in [(12, 1), (13, 12), (14, 13)]:
            txs = [paying(number, (0, number), number, 1000)]
            if number in bad:
                txs.append(paying(1, (0, 9), 9, 1000))
            self.assertEqual(self.offer(number, parent, txs=txs), ("kept", ()))

    def test_bad_block_at_the_end(self):
        self.branch()
        known = self.bad((15, 0), 15, 14, [paying(12, (0, 9), 9, 1000)])
        self.assertEqual(known, ((1, 2, 3, 4, 12, 13, 14), (15,)))
        self.assertEqual(self.offer(16, 14, txs=[paying(16, (0, 9), 9, 1000)]), ("switched", (2, 3, 4)))

    def test_bad_block_in_the_middle(self):
        self.branch(13)
        known = self.bad((13, 1), 15, 14)
        self.assertEqual(known, ((1, 2, 3, 4, 12), (13, 14, 15)))
        for number in (13, 14, 15):
            self.fails(BarredBlock, number, self.chain.offer, self.block(number, 12))
            self.fails(UnknownParent, number, self.chain.offer, self.block(20, number))
        # The block below the bad one may be built on.
        for number, parent in [(23, 12), (24, 23)]:
            self.assertEqual(self.offer(number, parent), ("kept", ()))
        self.assertEqual(self.offer(25, 24), ("switched", (2, 3, 4)))

    def test_first_bad_block_counts(self):
        self.branch(12, 14)
        self.assertEqual(self.bad((12, 1), 15, 14, [paying(1, (0, 9), 9, 1000)]), ((1, 2, 3, 4), (12, 13, 14, 15)))

    def test_side_branches_above_a_bad_block(self):
        self.branch(13)
        for number, parent in [(33, 12), (34, 33), (24, 13)]:
            self.offer(number, parent)
        self.assertEqual(self.bad((13, 1), 15, 14), ((1, 2, 3, 4, 12, 33, 34), (13, 14, 15, 24)))
        self.assertEqual(self.offer(35, 34), ("switched", (2, 3, 4)))

    def test_bad_only_on_this_branch(self):
        # The transaction of block 22 spends what a transaction of block 2 makes.
        self.offer(1, 0)
        self.offer(2, 1, txs=[paying(7, (0, 7), 7, 1000)])
        self.offer(12, 1, txs=[])
        tx = paying(8, (7, 0), 7, 970)
        self.assertEqual(self.bad((13, 0), 13, 12, [tx]), ((1, 2, 12), (13,)))
        self.assertEqual(self.offer(3, 2, txs=[tx]), ("extended", ()))

    def test_bad_block_on_the_first_day(self):
        self.assertEqual(self.bad((6, 0), 6, 0, [paying(0, (0, 0), 0, 1000)]), ((), (6,)))
        self.assertEqual(self.chain.picture(), ((0,), State(GRANTS, RESERVE).picture(), (), (6,)))

    def test_settled_ones_behind_a_bad_block(self):
        self.setUp(depth=2)
        for number in range(1, 6):
            self.offer(number, number - 1, txs=[paying(number, (0, number), number, 1000)])
        self.offer(14, 3, txs=[paying(1, (0, 9), 9, 1000)])
        self.offer(15, 14)
        self.assertEqual(self.bad((14, 0), 16, 15), ((1, 2, 3, 4, 5), (14, 15, 16)))
        self.assertEqual(self.offer(24, 3), ("kept", ()))
        self.offer(25, 24)
        self.assertEqual(self.offer(26, 25), ("switched", (4, 5)))


class MadeUpTest(Checks, unittest.TestCase):
    def some_tx(self, source):
        ref = source.choice([(0, source.randrange(6)), (source.randint(1, 12), 0)])
        return paying(source.randint(0, 12), ref, source.randrange(6), source.choice([1000, 970, 940]),
                      deeds=source.choice([(), (), (("join", 3),)]))

    def test_against_the_slow_chain(self):
        source = random.Random(2)
        seen = {}
        for _ in range(60):
            params = Params(depth=source.choice([0, 1, 2, 4]), epoch_length=source.choice([2, 3, 10]), deposit=0)
            grants = [(key, 1000) for key in range(6)]
            chains = [Chain(params, grants, RESERVE) for _ in range(2)]
            slow = SlowChain(params, grants, RESERVE)
            for _ in range(25):
                parent = source.choice([0, 3, slow.tip, slow.tip, *sorted(slow.known)[-6:]])
                start = slow.known[parent].slot if parent in slow.known else 0
                txs = [self.some_tx(source) for _ in range(source.choice([0, 0, 1, 2]))]
                block = Block(number=source.randint(0, 40), parent=parent, slot=start + source.choice([1, 1, 2, 3, 9]), txs=txs)
                picture = block.picture()
                expected = slow.offer(block)
                for chain in chains:
                    try:
                        answer = chain.offer(block)
                    except KeptError as e:
                        answer = (e.__class__, e.what)
                    self.assertEqual(answer, expected)
                    self.assertEqual(chain.picture(), slow.picture())
                    self.assertEqual((chain.tip, chain.height), (slow.tip, len(slow.path(slow.tip)) - 1))
                self.assertEqual(block.picture(), picture)
                seen[expected[0]] = seen.get(expected[0], 0) + 1
            self.assertEqual(chains[0].state.picture(), played(grants, RESERVE, chains[0].blocks(), params).picture())
        for outcome in ("kept", "extended", "switched", BadBlock, BadBlockNumber, KnownBlock, BarredBlock, UnknownParent,
                        BadSlot, TooDeep):
            self.assertGreater(seen.get(outcome, 0), 3, outcome)


if __name__ == "__main__":
    unittest.main()
