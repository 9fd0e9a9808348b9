"""keptcoin/node/pool.py (11.11)."""

import unittest

from keptcoin.errors import FeeTooLow, Reused, WrongClaim
from keptcoin.node.pool import answer_behind, fitting
from keptcoin.state.state import State
from keptcoin.tx.params import Params
from tests.helpers import Checks
from tests.ledger import key_output, paying, script_output, some_tx

PARAMS = Params()


class PoolTest(Checks, unittest.TestCase):
    def setUp(self):
        self.state = State([(key, 1000) for key in range(20)], 70)
        self.state.add_output((50, 0), script_output("signed(77)", 100))
        self.state.use(50)
        # Each pays for itself; 21 to 23 rest on one another.
        self.txs = [paying(at + 1, (0, at), at, 1000) for at in range(20)]
        self.row = [paying(21, (1, 0), 0, 970), paying(22, (21, 0), 0, 940), paying(23, (22, 0), 0, 910)]
        self.unapproved = some_tx(number=30, spends=[(50, 0)], fee=40, makes=[key_output(9, 60)], signers=[3], pledge=[(0, 3)],
                                  data=[(("spend", (50, 0)), [])], approved=False)

    def fits(self, txs, many, expected):
        """These are chosen, and the state, its mark and the list stay as they are."""
        before, mark, given = self.state.picture(), self.state.mark(), list(txs)
        found = fitting(self.state, txs, PARAMS, many)
        self.assertIsInstance(found, list)
        self.assertEqual([tx.picture() for tx in found], [tx.picture() for tx in expected])
        self.assertEqual((self.state.picture(), self.state.mark(), txs), (before, mark, given))
        found.append(7)
        self.assertEqual(len(fitting(self.state, txs, PARAMS, many)), len(expected))

    def test_counts(self):
        for many in (0, 1, 7, 19, 20, 21, 100):
            self.fits(self.txs, many, self.txs[:many])
        for many in (0, 1, 5):
            self.fits([], many, [])

    def test_one_rests_on_another(self):
        self.fits([self.txs[0], *self.row], 9, [self.txs[0], *self.row])
        self.fits(self.row, 9, [])
        self.fits([self.row[0], self.txs[0], self.row[1], self.row[2]], 9, [self.txs[0]])
        self.fits([self.txs[0], self.row[1], self.row[0], self.row[2]], 9, [self.txs[0], self.row[0]])
        self.fits([self.txs[0], *self.row], 3, [self.txs[0], *self.row[:2]])

    def test_refused_ones_are_passed_over(self):
        low = paying(60, (0, 7), 7, 1000, fee=1)
        twice = paying(61, (0, 0), 0, 1000)
        used = paying(50, (0, 6), 6, 1000)
        later = paying(62, (0, 5), 5, 1000, begins=1)
        self.fits([low, self.txs[0], twice, self.txs[0], used, later, self.txs[1]], 9, self.txs[:2])
        # They do not count, and nothing is tried once the count is reached.
        self.fits([low, used, self.txs[0], twice, self.txs[1], self.txs[2]], 2, self.txs[:2])
        self.fits([low, used], 9, [])

    def test_not_approved_ones_are_chosen(self):
        self.fits([self.unapproved, self.txs[0]], 9, [self.unapproved, self.txs[0]])
        # Its pledge is gone behind it.
        self.fits([self.unapproved, self.txs[3]], 9, [self.unapproved])
        self.fits([self.txs[3], self.unapproved], 9, [self.txs[3]])
        claims = some_tx(**{**vars(self.unapproved), "approved": True})
        self.fits([claims, self.txs[3]], 9, [self.txs[3]])

    def test_state_with_other_changes(self):
        self.state.set_clock(1, 0)
        self.state.forget(self.state.mark())
        later = paying(62, (0, 5), 5, 1000, begins=1)
        self.fits([later, *self.txs[:2]], 9, [later, *self.txs[:2]])

    def test_answers_behind_others(self):
        before, mark = self.state.picture(), self.state.mark()
        self.assertIs(answer_behind(self.state, [self.txs[0], *self.row[:2]], self.row[2], PARAMS), True)
        self.assertIs(answer_behind(self.state, self.txs[:2], self.unapproved, PARAMS), False)
        self.fails(Reused, 1, answer_behind, self.state, self.txs, self.txs[0], PARAMS)
        self.fails(FeeTooLow, 17, answer_behind, self.state, self.txs[:2], paying(60, (0, 7), 7, 1000, fee=1), PARAMS)
        self.fails(WrongClaim, (), answer_behind, self.state, [], some_tx(**{**vars(self.txs[0]), "approved": False}), PARAMS)
        self.assertEqual((self.state.picture(), self.state.mark()), (before, mark))


if __name__ == "__main__":
    unittest.main()
