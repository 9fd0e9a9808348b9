"""The node, which takes transactions and blocks, and forges blocks."""

from keptcoin.chain.block import Block
from keptcoin.chain.chain import MOST_TRANSACTIONS, Chain
from keptcoin.epochs.clock import advance
from keptcoin.errors import AlreadyPending, PoolFull
from keptcoin.journal.records import line_of
from keptcoin.node.pool import answer_behind, fitting

_MOST_WAITING = 30


class Node:
    """A chain, the transactions that wait, and the journal of all calls of submit and offer."""

    def __init__(self, *, params, grants, reserve):
        self.chain = Chain(params, grants, reserve)
        self.state = self.chain.state
        self.journal = ""
        self._params = params
        self._waiting = []

    def submit(self, tx):
        """Lets a transaction wait, and tells whether it is approved."""
        self._write("submit", tx.picture())
        if tx.number in [other.number for other in self._waiting]:
            raise AlreadyPending(tx.number)
        if len(self._waiting) == _MOST_WAITING:
            raise PoolFull()
        approved = answer_behind(self.state, self._waiting, tx, self._params)
        self._waiting.append(tx)
        return approved

    def offer(self, block):
        """Offers a block to the chain, and tells what the chain did."""
        self._write("offer", block.picture())
        word, left = self.chain.offer(block)
        if word != "kept":
            freed = [tx for number in left for tx in self.chain.block(number).txs]
            self._waiting = fitting(self.state, freed + self._waiting, self._params, _MOST_WAITING)
        return word

    def _write(self, word, picture):
        """Writes the line of a call, which comes before all else, so that refused calls stand in the journal too."""
        self.journal += line_of(word, picture) + "\n"

    def make_block(self, number, slot):
        """A block of waiting transactions behind the tip. It is not offered."""
        parent = self.chain.tip
        self.chain.check_offer(Block(number=number, parent=parent, slot=slot))
        mark = self.state.mark()
        advance(self.state, slot, self._params)
        txs = fitting(self.state, self._waiting, self._params, MOST_TRANSACTIONS)
        self.state.rewind(mark)
        return Block(number=number, parent=parent, slot=slot, txs=txs)

    def waiting(self):
        """The transactions that wait, in order."""
        return list(self._waiting)

    def picture(self):
        """The node as a plain value."""
        return (self.chain.picture(), tuple([tx.picture() for tx in self._waiting]))
