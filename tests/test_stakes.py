"""keptcoin/epochs/stakes.py (10.4)."""

import unittest

from keptcoin.epochs.stakes import current_stakes
from keptcoin.state.state import State
from tests.ledger import key_output, script_output


class CurrentStakesTest(unittest.TestCase):
    def setUp(self):
        self.state = State([(7, 500), (4, 60), (7, 5)], 1000)

    def stakes(self, *expected):
        picture, mark = self.state.picture(), self.state.mark()
        found = current_stakes(self.state)
        self.assertEqual(found, list(expected))
        self.assertIsInstance(found, list)
        for row in found:
            self.assertIsInstance(row, tuple)
        found.append((1, 1))
        self.assertEqual(current_stakes(self.state), list(expected))
        self.assertEqual((self.state.picture(), self.state.mark()), (picture, mark))

    def test_no_account(self):
        self.stakes()

    def test_outputs_and_rewards(self):
        self.state.set_account(7, (20, 0))
        self.stakes((7, 505))
        self.state.set_account(7, (20, 9))
        self.stakes((7, 514))
        self.state.set_account(4, (10 ** 6, 1))
        self.stakes((4, 61), (7, 514))

    def test_rewards_alone(self):
        self.state.set_account(2, (20, 3))
        self.stakes((2, 3))

    def test_deposits_do_not_count(self):
        self.state.set_account(2, (20, 0))
        self.stakes()
        self.state.set_account(9, (10 ** 6, 0))
        self.state.set_account(4, (0, 0))
        self.stakes((4, 60))

    def test_ascending_keys(self):
        for key in (7, 10 ** 9, 4, 0, 11):
            self.state.set_account(key, (20, key + 1))
        self.stakes((0, 1), (4, 65), (7, 513), (11, 12), (10 ** 9, 10 ** 9 + 1))

    def test_outputs_with_other_assets(self):
        self.state.set_account(7, (20, 0))
        self.state.add_output((5, 0), key_output(7, 30, (("p", 1), 900), (("q", 2), 4), datum=[8]))
        self.stakes((7, 535))

    def test_script_addresses(self):
        self.state.set_account(7, (20, 0))
        self.state.add_output((5, 0), script_output("7", 30))
        self.state.add_output((5, 1), script_output("signed(7)", 30))
        self.stakes((7, 505))

    def test_behind_each_sort_of_change(self):
        self.state.set_account(7, (20, 0))
        self.state.set_account(4, (20, 0))
        mark = self.state.mark()
        self.state.remove_output((0, 0))
        self.stakes((4, 60), (7, 5))
        self.state.remove_output((0, 2))
        self.stakes((4, 60))
        self.state.add_output((5, 0), key_output(7, 9))
        self.stakes((4, 60), (7, 9))
        self.state.set_account(4, None)
        self.stakes((7, 9))
        self.state.set_account(4, (0, 8))
        self.stakes((4, 68), (7, 9))
        for change in (lambda: self.state.set_pot("fees", 99), lambda: self.state.set_clock(9, 3),
                       lambda: self.state.set_stakes([(9, 9), (7, 1)]), lambda: self.state.use(7)):
            change()
            self.stakes((4, 68), (7, 9))
        self.state.rewind(mark)
        self.stakes((4, 60), (7, 505))

    def test_stakes_of_the_state_do_not_count(self):
        self.state.set_stakes([(7, 5), (4, 9)])
        self.stakes()


if __name__ == "__main__":
    unittest.main()
