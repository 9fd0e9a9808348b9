"""Books of the unspent outputs by address."""

from keptcoin.amounts.sums import total


class Books:
    """Which outputs there are at each address, and what they hold."""

    def __init__(self):
        # For each address a dict from references to bundles.
        self._bundles = {}

    def added(self, ref, output):
        """Notes an output that is new."""
        self._bundles.setdefault(output.address, {})[ref] = output.bundle

    def removed(self, ref, output):
        """Notes that an output is gone."""
        del self._bundles[output.address][ref]

    def refs_of(self, address):
        """The references of the address, ascending."""
        return sorted(self._bundles.get(address, {}))

    def balance(self, address):
        """What the outputs of the address hold."""
        return total(list(self._bundles.get(address, {}).values()))

    def supply(self):
        """What all outputs hold."""
        return total([self.balance(address) for address in self._bundles])
