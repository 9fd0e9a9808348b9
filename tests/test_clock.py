"""keptcoin/epochs/clock.py (10.1, 10.5 to 10.7, and 8.5 for epochs)."""

import random
import unittest

from keptcoin.epochs.clock import advance, end_epoch
from keptcoin.errors import BadSlot
from keptcoin.state.state import State
from keptcoin.tx.params import Params
from tests.helpers import Checks
from tests.ledger import key_output, script_output
from tests.model import Model

PARAMS = Params()


class EndTest(unittest.TestCase):
    def setUp(self):
        self.state = State([(7, 500), (4, 60), (9, 40)], 1000)
        self.state.add_output((5, 0), script_output("true", 30, (("p", 1), 4)))
        self.state.set_account(7, (20, 0))
        self.state.set_account(4, (25, 30))
        self.state.set_pot("fees", 48)
        self.state.set_pot("treasury", 2)
        self.state.set_clock(13, 1)
        self.state.set_stakes([(7, 300), (4, 100)])
        self.state.use(5)

    def ends(self, params=PARAMS, times=1):
        """The state behind an end, which is that of the model and has the same total, and is taken back by a rewind."""
        before, mark, total = self.state.picture(), self.state.mark(), self.state.total().rows
        model = Model.of_state(self.state)
        for _ in range(times):
            model.end_epoch(params)
            self.assertIsNone(end_epoch(self.state, params))
        after = self.state.picture()
        self.assertEqual(after, model.picture())
        self.assertEqual(self.state.total().rows, total)
        self.assertEqual((after[0], after[6:]), (before[0], before[6:]))
        self.state.rewind(mark)
        self.assertEqual((self.state.picture(), self.state.total().rows), (before, total))
        for _ in range(times):
            end_epoch(self.state, params)
        self.assertEqual(self.state.picture(), after)
        return self.state

    def test_shares_by_the_last_snapshot(self):
        state = self.ends()
        # The pot is 48 + 50; 73 and 24 of it are given, 1 is left.
        self.assertEqual((state.account(7), state.account(4)), ((20, 73), (25, 54)))
        self.assertEqual((state.fees, state.reserve, state.treasury), (0, 950, 3))
        self.assertEqual(state.stakes(), [(4, 114), (7, 573)])
        self.assertEqual((state.slot, state.epoch), (13, 1))

    def test_keys_without_an_account(self):
        self.state.set_stakes([(7, 300), (4, 100), (9, 10 ** 6), (1, 5)])
        state = self.ends()
        self.assertEqual((state.account(7), state.account(4), state.account(9)), ((20, 73), (25, 54), None))
        self.assertEqual(state.treasury, 3)

    def test_no_eligible_row(self):
        for stakes in ([], [(9, 40)], [(9, 40), (1, 0)]):
            mark = self.state.mark()
            self.state.set_stakes(stakes)
            state = self.ends()
            self.assertEqual((state.fees, state.reserve, state.treasury), (0, 950, 100))
            self.assertEqual((state.account(7), state.account(4)), ((20, 0), (25, 30)))
            self.assertEqual(state.stakes(), [(4, 90), (7, 500)])
            self.state.rewind(mark)

    def test_no_account_at_all(self):
        for key in (4, 7):
            self.state.set_account(key, None)
        state = self.ends()
        self.assertEqual((state.treasury, state.stakes(), state.keys_joined()), (100, [], []))

    def test_rows_of_no_coin(self):
        self.state.set_stakes([(7, 0), (4, 0)])
        state = self.ends()
        self.assertEqual((state.account(7), state.account(4), state.treasury), ((20, 0), (25, 30), 100))

    def test_empty_pot(self):
        self.state.set_pot("fees", 0)
        state = self.ends(Params(share=0))
        self.assertEqual((state.account(7), state.account(4)), ((20, 0), (25, 30)))
        self.assertEqual((state.fees, state.reserve, state.treasury), (0, 1000, 2))
        self.assertEqual(state.stakes(), [(4, 90), (7, 500)])
        self.state.set_pot("reserve", 19)
        self.assertEqual(self.ends().reserve, 19)

    def test_all_of_the_reserve(self):
        state = self.ends(Params(share=1000))
        self.assertEqual((state.account(7), state.account(4)), ((20, 786), (25, 292)))
        self.assertEqual((state.fees, state.reserve, state.treasury), (0, 0, 2))

    def test_two_ends(self):
        state = self.ends(times=2)
        # The second pot is 47, shared by 114 and 573.
        self.assertEqual((state.account(7), state.account(4)), ((20, 73 + 39), (25, 54 + 7)))
        self.assertEqual((state.reserve, state.treasury), (950 - 47, 4))
        self.assertEqual(state.stakes(), [(4, 121), (7, 612)])

    def test_treasury_is_not_shared(self):
        self.state.set_pot("treasury", 10 ** 6)
        self.assertEqual(self.ends().treasury, 10 ** 6 + 1)

    def test_snapshot_holds_what_there_is_now(self):
        self.state.set_account(9, (20, 0))
        self.state.remove_output((0, 0))
        self.state.add_output((6, 0), key_output(4, 8, (("p", 1), 3)))
        self.assertEqual(self.ends().stakes(), [(4, 122), (7, 73), (9, 40)])

    def test_made_up_states(self):
        source = random.Random(9)
        for _ in range(200):
            self.state = State([(source.randint(0, 4), source.randint(1, 1000)) for _ in range(5)], source.randint(0, 10 ** 5))
            for key in source.sample(range(5), 3):
                self.state.set_account(key, (source.randint(0, 30), source.randint(0, 30)))
            self.state.set_stakes([(key, source.randint(0, 50)) for key in source.sample(range(5), 3)])
            self.state.set_pot("fees", source.randint(0, 500))
            self.ends(Params(share=source.choice([0, 1, 50, 999, 1000])), source.randint(1, 3))


class AdvanceTest(Checks, unittest.TestCase):
    def setUp(self):
        self.state = State([(7, 500)], 1000)
        self.state.set_account(7, (20, 0))

    def at(self, slot, params=PARAMS):
        self.state.set_clock(slot, slot // params.epoch_length)

    def refused(self, slot, params=PARAMS):
        before, mark = self.state.picture(), self.state.mark()
        self.fails(BadSlot, slot, advance, self.state, slot, params)
        self.assertEqual((self.state.picture(), self.state.mark()), (before, mark))

    def moves(self, slot, params=PARAMS):
        """Advances to a slot and takes it back; returns how many epochs ended."""
        before, mark, epoch, total = self.state.picture(), self.state.mark(), self.state.epoch, self.state.total().rows
        model = Model.of_state(self.state)
        model.advance(slot, params)
        self.assertIsNone(advance(self.state, slot, params))
        self.assertEqual(self.state.picture(), model.picture())
        self.assertEqual((self.state.slot, self.state.epoch), (slot, slot // params.epoch_length))
        self.assertEqual(self.state.total().rows, total)
        ended = self.state.epoch - epoch
        self.state.rewind(mark)
        self.assertEqual(self.state.picture(), before)
        return ended

    def test_of_the_interface(self):
        advance(self.state, 25, PARAMS)
        self.assertEqual((self.state.account(7), self.state.fees, self.state.reserve, self.state.treasury,
                          self.state.stakes()), ((20, 47), 0, 903, 50, [(7, 547)]))
        self.assertEqual((self.state.slot, self.state.epoch), (25, 2))

    def test_range(self):
        for start in (0, 5, 9, 10, 25, 10 ** 9):
            self.at(start)
            for slot in (start + 1, start + 2, start + 39, start + 40):
                self.moves(slot)
            for slot in (start, start - 1, 0, -1, start + 41, start + 1000, -10 ** 9):
                self.refused(slot)

    def test_within_an_epoch(self):
        for start, slot in [(0, 1), (0, 9), (10, 19), (13, 14), (28, 29)]:
            self.at(start)
            self.assertEqual(self.moves(slot), 0)
            before = self.state.picture()
            advance(self.state, slot, PARAMS)
            self.assertEqual(self.state.picture()[:6], before[:6])

    def test_over_ends(self):
        for start, slot, ended in [(0, 10, 1), (9, 10, 1), (9, 19, 1), (9, 20, 2), (0, 20, 2), (9, 49, 4), (0, 40, 4),
                                   (5, 45, 4), (15, 39, 2), (10, 49, 3), (10, 50, 4), (1, 41, 4)]:
            self.at(start)
            self.assertEqual(self.moves(slot), ended)

    def test_each_end_is_done_by_itself(self):
        other = State([(7, 500)], 1000)
        other.set_account(7, (20, 0))
        for slot in (10, 20, 30, 40):
            advance(other, slot, PARAMS)
        advance(self.state, 40, PARAMS)
        self.assertEqual(self.state.picture(), other.picture())
        # With the first snapshot at the end of the first epoch, the first growth goes into the treasury.
        self.assertEqual(self.state.treasury, 50)

    def test_lengths_of_epochs(self):
        for length in (2, 3, 1000):
            params = Params(epoch_length=length)
            for start in (0, 1, length - 1, length, 7 * length + 1):
                self.at(start, params)
                self.assertEqual(self.moves(start + 4 * length, params), 4)
                self.assertIn(self.moves(start + 1, params), (0, 1))
                self.assertEqual(self.moves(start + length, params), 1)
                self.refused(start, params)
                self.refused(start + 4 * length + 1, params)

    def test_params_are_not_modified(self):
        params = Params(epoch_length=3)
        before = dict(vars(params))
        advance(self.state, 12, params)
        self.assertEqual(vars(params), before)


if __name__ == "__main__":
    unittest.main()
