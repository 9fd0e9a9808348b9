"""keptcoin/chain/block.py (11.1)."""

import unittest

from keptcoin.chain.block import Block
from tests.ledger import key_output, some_tx


class BlockTest(unittest.TestCase):
    def test_no_transaction(self):
        block = Block(number=5, parent=0, slot=3)
        self.assertEqual(block.picture(), (5, 0, 3, ()))
        self.assertEqual((block.number, block.parent, block.slot, block.txs), (5, 0, 3, ()))

    def test_pictures_of_transactions(self):
        txs = [some_tx(number=8, makes=[key_output(3, 9, (("p", 1), 2), datum=[4])]), some_tx(number=6, approved=False)]
        block = Block(number=5, parent=2, slot=3, txs=txs)
        self.assertEqual(block.picture(), (5, 2, 3, (txs[0].picture(), txs[1].picture())))
        self.assertEqual([tx.picture() for tx in block.txs], [tx.picture() for tx in txs])
        self.assertIsInstance(block.txs, tuple)
        self.assertEqual(Block(number=5, parent=2, slot=3, txs=txs[1:]).picture(), (5, 2, 3, (txs[1].picture(),)))

    def test_list_is_copied(self):
        txs = [some_tx(number=8)]
        block = Block(number=5, parent=2, slot=3, txs=txs)
        before = block.picture()
        txs.append(some_tx(number=9))
        txs[0] = some_tx(number=10)
        self.assertEqual(block.picture(), before)
        self.assertEqual(Block(number=5, parent=2, slot=3, txs=(some_tx(number=8),)).picture(), before)

    def test_any_numbers(self):
        self.assertEqual(Block(number=-5, parent=10 ** 20, slot=-3).picture(), (-5, 10 ** 20, -3, ()))

    def test_many_transactions(self):
        txs = [some_tx(number=at) for at in range(200)]
        self.assertEqual([tx.number for tx in Block(number=1, parent=0, slot=1, txs=txs).txs], list(range(200)))

    def test_arguments_are_named(self):
        self.assertRaises(TypeError, Block, 5, 0, 3)


if __name__ == "__main__":
    unittest.main()
