"""keptcoin/tx/fees.py (7.4 to 7.6)."""

import unittest

from keptcoin.tx.fees import least_coin, least_fee, weight
from keptcoin.tx.output import Output
from keptcoin.tx.params import Params
from keptcoin.tx.transaction import Transaction
from tests.ledger import key_output, script_output, some_tx


def rows(many):
    return [(("p", name), 1) for name in range(many)]


class LeastCoinTest(unittest.TestCase):
    def test_rows_and_integers(self):
        for many in range(9):
            for integers in range(9):
                output = Output(("key", 1), rows(many), [7] * integers)
                self.assertEqual(least_coin(output, Params()), 2 + many + integers)

    def test_coin_is_a_row(self):
        self.assertEqual(least_coin(key_output(1, 5), Params()), 3)
        self.assertEqual(least_coin(key_output(1, 0), Params()), 2)

    def test_parameters(self):
        for base in (1, 2, 1000):
            self.assertEqual(least_coin(key_output(1, 5, (("p", 1), 3), datum=[1, 2]), Params(coin_base=base)), base + 4)

    def test_address_does_not_count(self):
        self.assertEqual(least_coin(script_output("x" * 400, 5), Params()), 3)


class WeightTest(unittest.TestCase):
    def weighs(self, expected, **fields):
        self.assertEqual(weight(some_tx(**{"spends": [], **fields})), 5 + expected)

    def test_each_field_alone(self):
        self.weighs(0)
        for many in range(9):
            refs = [(0, at) for at in range(many)]
            self.weighs(2 * many, spends=refs)
            self.weighs(2 * many, looks=refs)
            self.weighs(0, pledge=refs)
            self.weighs(2 * many, mint=rows(many))
            self.weighs(2 * many, mint=[(asset, -quantity) for asset, quantity in rows(many)])
            self.weighs(many, signers=list(range(many)))
            self.weighs(2 * many, deeds=[("join", at) for at in range(many)])
            self.weighs(2 * many, draws=[(at, 5) for at in range(many)])
            self.weighs(2 * many, data=[(("mint", str(at)), []) for at in range(many)])
            self.weighs(2 + many, data=[(("mint", "p"), [1] * many)])
            self.weighs(2 * many, makes=[Output(("key", 1), [])] * many)
            self.weighs(2 + 2 * many, makes=[Output(("key", 1), rows(many))])
            self.weighs(2 + many, makes=[Output(("key", 1), [], [1] * many)])

    def test_lengths_of_texts(self):
        for length, counted in [(0, 0), (1, 0), (9, 0), (10, 1), (11, 1), (19, 1), (20, 2), (399, 39), (400, 40)]:
            self.weighs(2 + counted, makes=[Output(("script", "x" * length), [])])
        # Each text is rounded down for itself.
        self.weighs(2 * 2, makes=[Output(("script", "x" * 9), [])] * 2)

    def test_other_fields_do_not_count(self):
        self.weighs(0, number=10 ** 9, fee=10 ** 12, begins=5, ends=6, approved=False)

    def test_policies_do_not_count(self):
        self.weighs(2, mint=[(("x" * 400, 1), 3)])

    def test_all_together(self):
        self.weighs(2 * 2 + 2 * 1 + (2 + 2 * 2 + 3 + 2) + (2 + 2) + 2 * 1 + 3 + (2 + 2) + 2 + 2 * 2 + 2 * 1,
                    spends=[(0, 1), (0, 2)], looks=[(0, 3)], pledge=[(0, 4)],
                    makes=[script_output("x" * 25, 9, (("p", 1), 5), datum=[1, 2, 3]), key_output(10 ** 9, 9)],
                    mint=[(("p", 1), 5)], signers=[1, 2, 3], data=[(("mint", "p"), (7, 8)), (("mint", "q"), ())],
                    deeds=[("join", 1), ("leave", 2)], draws=[(2, 9)])


class LeastFeeTest(unittest.TestCase):
    def test_of_the_interface(self):
        output = Output(("key", 7), [(("", 0), 30), (("p", 1), 4)], [5])
        tx = Transaction(number=3, spends=[(0, 2)], makes=[output], fee=12, signers=[7])
        self.assertEqual((least_coin(output, Params()), weight(tx), least_fee(tx, 250, Params())), (5, 15, 25))

    def test_steps(self):
        tx = some_tx()
        for steps, fee in [(0, 12), (49, 12), (50, 13), (51, 13), (99, 13), (100, 14), (149, 14), (150, 15), (10 ** 6, 20012)]:
            self.assertEqual(least_fee(tx, steps, Params()), fee)
        for step, steps, fee in [(1, 99, 12), (1, 100, 13), (3, 33, 12), (3, 34, 13), (3, 66, 13), (3, 67, 14), (100, 7, 19),
                                 (1000, 1, 22), (0, 10 ** 6, 12)]:
            self.assertEqual(least_fee(tx, steps, Params(fee_step=step)), fee)

    def test_parameters(self):
        tx = some_tx(signers=[1, 2, 3])
        self.assertEqual(least_fee(tx, 0, Params(fee_base=0, fee_weight=0, fee_step=0)), 0)
        self.assertEqual(least_fee(tx, 500, Params(fee_base=7, fee_weight=0, fee_step=0)), 7)
        self.assertEqual(least_fee(tx, 500, Params(fee_base=0, fee_weight=3, fee_step=0)), 30)
        self.assertEqual(least_fee(tx, 500, Params(fee_base=0, fee_weight=0, fee_step=4)), 20)
        self.assertEqual(least_fee(tx, 500, Params(fee_base=7, fee_weight=3, fee_step=4)), 57)
        one, other = Params(fee_base=1), Params(fee_base=1000)
        self.assertEqual((least_fee(tx, 0, one), least_fee(tx, 0, other), least_fee(tx, 0, one)), (11, 1010, 11))


if __name__ == "__main__":
    unittest.main()
