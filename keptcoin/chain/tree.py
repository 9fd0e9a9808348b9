"""The tree of the known blocks."""

from keptcoin.errors import BadBlockNumber, BarredBlock, KnownBlock, UnknownParent

_GREATEST_NUMBER = 10 ** 9


class Tree:
    """The known blocks, which form branches from the first day (0) on, and the numbers that are barred."""

    def __init__(self):
        # By number; each block stands behind its parent.
        self._blocks = {}
        self._heights = {0: 0}
        self._barred = {}

    def check_new(self, block):
        """Raises the error of the first rule that keeps the block from becoming known."""
        number = block.number
        if not 1 <= number <= _GREATEST_NUMBER:
            raise BadBlockNumber(number)
        if number in self._blocks:
            raise KnownBlock(number)
        if number in self._barred:
            raise BarredBlock(number)
        self._check_known(block.parent)

    def _check_known(self, number):
        """Raises UnknownParent if the number is neither 0 nor that of a known block."""
        if number not in self._heights:
            raise UnknownParent(number)

    def attach(self, block):
        """Makes the block known."""
        self.check_new(block)
        self._blocks[block.number] = block
        self._heights[block.number] = self._heights[block.parent] + 1

    def drop(self, number):
        """Forgets a block and all above it, bars their numbers and returns them, ascending."""
        if number not in self._blocks:
            raise UnknownParent(number)
        dropped = {number: True}
        for block in self._blocks.values():
            if block.parent in dropped:
                dropped[block.number] = True
        for gone in dropped:
            del self._blocks[gone]
            del self._heights[gone]
            self._barred[gone] = True
        return sorted(dropped)

    def block(self, number):
        """The known block with this number, or None."""
        return self._blocks.get(number)

    def height_of(self, number):
        """How many blocks the branch of the number has."""
        self._check_known(number)
        return self._heights[number]

    def slot_of(self, number):
        """The slot of a known block, or of the first day."""
        self._check_known(number)
        return 0 if number == 0 else self._blocks[number].slot

    def parent_of(self, number):
        """The number of the parent of a known block, None for the first day."""
        self._check_known(number)
        return None if number == 0 else self._blocks[number].parent

    def path_to(self, number):
        """The numbers on the branch, from 0 to the number itself."""
        self._check_known(number)
        path = [number]
        while path[-1] != 0:
            path.append(self._blocks[path[-1]].parent)
        return path[::-1]

    def is_barred(self, number):
        """True if no block may have the number any more."""
        return number in self._barred

    def numbers(self):
        """The numbers of the known blocks, ascending."""
        return sorted(self._blocks)

    def barred(self):
        """The barred numbers, ascending."""
        return sorted(self._barred)
