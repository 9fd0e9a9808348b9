"""keptcoin/wallet/choose.py (13.1, 13.2)."""

import random
import unittest

from keptcoin.errors import NoPledge
from keptcoin.state.state import State
from keptcoin.tx.params import Params
from keptcoin.wallet.choose import pledge_for, sources
from tests.helpers import Checks
from tests.ledger import key_output, script_output, state_of

TOKEN = (("p", 1), 5)


class SourcesTest(unittest.TestCase):
    def gives(self, state, key, refs):
        before, mark = state.picture(), state.mark()
        found = sources(state, key)
        self.assertIsInstance(found, list)
        self.assertEqual(found, refs)
        found.append(7)
        self.assertEqual(sources(state, key), refs)
        self.assertEqual((state.picture(), state.mark()), (before, mark))

    def test_of_the_interface(self):
        self.gives(State([(4, 50), (4, 70), (5, 60), (4, 50)], 0), 4, [(0, 1), (0, 0), (0, 3)])

    def test_no_outputs(self):
        self.gives(State([], 0), 4, [])
        self.gives(State([(5, 60)], 0), 4, [])
        self.gives(State([(0, 60)], 0), 0, [(0, 0)])

    def test_like_coin(self):
        state = State([], 0)
        for ref in [(10, 0), (9, 5), (2, 7), (10, 2), (9, 0), (100, 0)]:
            state.add_output(ref, key_output(4, 50))
        state.add_output((100, 1), key_output(4, 51))
        state.add_output((1, 1), key_output(4, 49))
        self.gives(state, 4, [(100, 1), (2, 7), (9, 0), (9, 5), (10, 0), (10, 2), (100, 0), (1, 1)])

    def test_other_assets_do_not_count(self):
        state = state_of(key_output(4, 50), key_output(4, 50, TOKEN), key_output(4, 51, TOKEN), key_output(4, 52),
                         key_output(4, 49, (("p", 1), 10 ** 12)), key_output(4, 50, datum=[1, 2]))
        self.gives(state, 4, [(0, 3), (0, 2), (0, 0), (0, 1), (0, 5), (0, 4)])

    def test_other_addresses(self):
        state = state_of(script_output("4", 90), key_output(4, 50), script_output("signed(4)", 90), key_output(40, 90),
                         key_output(3, 90))
        self.gives(state, 4, [(0, 1)])

    def test_spent_outputs(self):
        state = State([(4, 50), (4, 70), (4, 60)], 0)
        mark = state.mark()
        state.remove_output((0, 1))
        self.gives(state, 4, [(0, 2), (0, 0)])
        state.rewind(mark)
        self.gives(state, 4, [(0, 1), (0, 2), (0, 0)])

    def test_made_up_states(self):
        source = random.Random(3)
        for _ in range(100):
            state = State([], 0)
            for _ in range(source.randint(0, 25)):
                ref = (source.randint(0, 9), source.randint(0, 7))
                if state.output(ref) is None:
                    make = source.choice([key_output, key_output, script_output])
                    place = source.choice([1, 2]) if make is key_output else source.choice(["1", "2"])
                    state.add_output(ref, make(place, source.randint(1, 5), *source.choice([[], [TOKEN]])))
            for key in (1, 2, 3):
                left = [ref for ref in state.unspent() if state.output(ref).address == ("key", key)]
                expected = []
                while left:
                    most = max([state.output(ref).bundle.coin for ref in left])
                    best = min([ref for ref in left if state.output(ref).bundle.coin == most])
                    left.remove(best)
                    expected.append(best)
                self.gives(state, key, expected)


class PledgeTest(Checks, unittest.TestCase):
    def gives(self, state, fee, refs, key=4, **params):
        before, mark = state.picture(), state.mark()
        found = pledge_for(state, key, fee, Params(**params))
        self.assertIsInstance(found, list)
        self.assertEqual(found, refs)
        found.append(7)
        self.assertEqual(pledge_for(state, key, fee, Params(**params)), refs)
        self.assertEqual((state.picture(), state.mark()), (before, mark))

    def lacks(self, state, fee, key=4, **params):
        before, mark = state.picture(), state.mark()
        self.fails(NoPledge, None, pledge_for, state, key, fee, Params(**params))
        self.assertEqual((state.picture(), state.mark()), (before, mark))

    def test_nothing_to_pledge(self):
        for state in (State([], 0), State([(4, 50)], 0), state_of(key_output(4, 50, TOKEN))):
            self.gives(state, 0, [])
            self.gives(state, 10 ** 12, [], pledge_rate=0)
            self.gives(state, 0, [], pledge_rate=10000)
            self.gives(state, 0, [], pledge_rate=0)

    def test_one_output(self):
        state = State([(4, 150), (4, 149)], 0)
        self.gives(state, 1, [(0, 0)])
        self.gives(state, 100, [(0, 0)])
        # 101 times 150 is 15150, more than 150 times 100.
        self.gives(state, 101, [(0, 0), (0, 1)])
        self.gives(state, 199, [(0, 0), (0, 1)])
        self.lacks(state, 200)

    def test_rates(self):
        state = State([(4, 100)], 0)
        self.gives(state, 100, [(0, 0)], pledge_rate=100)
        self.lacks(state, 101, pledge_rate=100)
        self.gives(state, 1, [(0, 0)], pledge_rate=10000)
        self.lacks(state, 2, pledge_rate=10000)
        self.gives(state, 10000, [(0, 0)], pledge_rate=1)
        self.lacks(state, 10001, pledge_rate=1)
        # The product counts, not a fee that is divided and rounded.
        self.gives(state, 66, [(0, 0)], pledge_rate=151)
        self.lacks(state, 67, pledge_rate=151)
        # A hundredth of a coin is missing.
        self.gives(State([(4, 1), (4, 1)], 0), 1, [(0, 0), (0, 1)], pledge_rate=101)
        self.lacks(State([(4, 1)], 0), 1, pledge_rate=101)

    def test_four_outputs_at_most(self):
        state = State([(4, 40), (4, 30), (4, 20), (4, 10), (4, 10), (4, 9)], 0)
        self.gives(state, 100, [(0, 0), (0, 1), (0, 2), (0, 3)], pledge_rate=100)
        self.lacks(state, 101, pledge_rate=100)
        self.gives(state, 90, [(0, 0), (0, 1), (0, 2)], pledge_rate=100)
        self.gives(state, 91, [(0, 0), (0, 1), (0, 2), (0, 3)], pledge_rate=100)

    def test_fewer_than_four_outputs(self):
        for count in range(4):
            state = State([(4, 100)] * count, 0)
            if count:
                self.gives(state, 100 * count, [(0, at) for at in range(count)], pledge_rate=100)
            self.lacks(state, 100 * count + 1, pledge_rate=100)

    def test_outputs_with_other_assets(self):
        state = state_of(key_output(4, 900, TOKEN), key_output(4, 50), key_output(4, 70, TOKEN), key_output(4, 60),
                         script_output("4", 800), key_output(5, 800), key_output(4, 10, datum=[5]), key_output(4, 9),
                         key_output(4, 8))
        self.gives(state, 60, [(0, 3)], pledge_rate=100)
        self.gives(state, 61, [(0, 3), (0, 1)], pledge_rate=100)
        # Those with other assets do not count among the four.
        self.gives(state, 129, [(0, 3), (0, 1), (0, 6), (0, 7)], pledge_rate=100)
        self.lacks(state, 130, pledge_rate=100)

    def test_like_coin(self):
        state = State([(4, 100), (5, 100), (4, 100), (4, 100)], 0)
        self.gives(state, 101, [(0, 0), (0, 2)], pledge_rate=100)

    def test_large_fees(self):
        state = State([(4, 10 ** 10)] * 5, 0)
        self.gives(state, 4 * 10 ** 10, [(0, at) for at in range(4)], pledge_rate=100)
        self.lacks(state, 10 ** 12, pledge_rate=10000)

    def test_made_up_fees(self):
        source = random.Random(4)
        for _ in range(200):
            state = state_of(*[key_output(4, source.randint(1, 60), *source.choice([[], [], [TOKEN]]))
                               for _ in range(source.randint(0, 7))])
            fee, rate = source.randint(0, 120), source.choice([0, 1, 99, 100, 150, 333])
            plain = [ref for ref in sources(state, 4) if len(state.output(ref).bundle.rows) == 1]
            good = [plain[:count] for count in range(min(4, len(plain)) + 1)
                    if sum([state.output(ref).bundle.coin for ref in plain[:count]]) * 100 >= fee * rate]
            if good:
                self.gives(state, fee, good[0], pledge_rate=rate)
            else:
                self.lacks(state, fee, pledge_rate=rate)


if __name__ == "__main__":
    unittest.main()
