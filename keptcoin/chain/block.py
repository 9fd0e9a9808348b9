"""Blocks of transactions."""


class Block:
    """Transactions in an order, for a slot, behind a parent, which is a block or the first day (0)."""

    def __init__(self, *, number, parent, slot, txs=()):
        self.number = number
        self.parent = parent
        self.slot = slot
        self.txs = tuple(txs)

    def picture(self):
        """The block as a plain value."""
        return (self.number, self.parent, self.slot, tuple([tx.picture() for tx in self.txs]))
