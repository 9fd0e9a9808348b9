"""The chain, which follows the highest branch of the tree of blocks."""

from keptcoin.chain.apply import apply_block
from keptcoin.chain.tree import Tree
from keptcoin.epochs.clock import check_slot
from keptcoin.errors import BadBlock, TooDeep, TooManyTransactions
from keptcoin.state.state import State

MOST_TRANSACTIONS = 20


class Chain:
    """The known blocks, and the state at the tip of the current branch."""

    def __init__(self, params, grants, reserve):
        self.state = State(grants, reserve)
        self.tip = 0
        self.height = 0
        self.settled = 0
        self._params = params
        self._tree = Tree()
        # For each height of the current branch the number that stands there, and the mark of the state behind it.
        self._path = [0]
        self._marks = [self.state.mark()]

    def check_offer(self, block):
        """Raises the error of the first rule that keeps the block from becoming known."""
        self._tree.check_new(block)
        check_slot(self._tree.slot_of(block.parent), block.slot, self._params)
        if len(block.txs) > MOST_TRANSACTIONS:
            raise TooManyTransactions(block.number)
        if self._fork_of(block.parent) < self.settled:
            raise TooDeep(block.parent)

    def offer(self, block):
        """Makes the block known and follows it if it is higher than the tip. Returns what that changed."""
        self.check_offer(block)
        self._tree.attach(block)
        if self._tree.height_of(block.number) <= self.height:
            return ("kept", ())
        fork = self._fork_of(block.parent)
        left = self._path[fork + 1:]
        try:
            self._follow(fork, self._tree.path_to(block.number)[fork + 1:])
        except BadBlock as e:
            self._follow(fork, left)
            self._tree.drop(e.what[0])
            raise
        self._settle()
        return ("switched", tuple(left)) if left else ("extended", ())

    def _fork_of(self, number):
        """The height of the highest one that is on the branch of the number and on the current branch."""
        height = self._tree.height_of(number)
        # No known block is higher than the tip, and 0 is on both branches.
        while self._path[height] != number:
            number = self._tree.parent_of(number)
            height -= 1
        return height

    def _follow(self, fork, numbers):
        """Takes the state back to a height of the current branch and applies these blocks there."""
        self.state.rewind(self._marks[fork])
        del self._path[fork + 1:]
        del self._marks[fork + 1:]
        for number in numbers:
            apply_block(self.state, self._tree.block(number), self._params)
            self._path.append(number)
            self._marks.append(self.state.mark())

    def _settle(self):
        """Notes the new tip. What is settled is never taken back."""
        self.tip = self._path[-1]
        self.height = len(self._path) - 1
        self.settled = max(0, self.height - self._params.depth)
        self.state.forget(self._marks[self.settled])

    def path(self):
        """The numbers of the current branch, from 0 to the tip."""
        return list(self._path)

    def block(self, number):
        """The known block with this number, or None."""
        return self._tree.block(number)

    def blocks(self):
        """The blocks of the current branch, from the lowest to the tip."""
        return [self.block(number) for number in self._path[1:]]

    def transactions(self):
        """The transactions of the current branch, in order."""
        return [tx for block in self.blocks() for tx in block.txs]

    def picture(self):
        """The chain as a plain value."""
        return (tuple(self._path), self.state.picture(), tuple(self._tree.numbers()), tuple(self._tree.barred()))
