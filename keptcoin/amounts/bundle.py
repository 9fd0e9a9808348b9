"""Bundles, which hold a quantity of every asset."""

from keptcoin.amounts.assets import COIN


class Bundle:
    """A quantity of every asset, 0 for all but a few. A bundle never changes."""

    def __init__(self, rows=()):
        sums = {}
        for asset, quantity in rows:
            sums[asset] = sums.get(asset, 0) + quantity
        self._quantities = {asset: sums[asset] for asset in sorted(sums) if sums[asset] != 0}
        self.rows = tuple(self._quantities.items())

    @property
    def coin(self):
        """The quantity of COIN."""
        return self.of(COIN)

    @staticmethod
    def of_coin(quantity):
        """The bundle of so much coin alone."""
        return Bundle([(COIN, quantity)])

    def of(self, asset):
        """The quantity of the asset."""
        return self._quantities.get(asset, 0)

    def covers(self, other):
        """True if this bundle has at least as much of every asset as the other one."""
        return all([quantity > 0 for asset, quantity in (self - other).rows])

    def tokens(self):
        """The bundle without its coin."""
        return Bundle([row for row in self.rows if row[0] != COIN])

    def __add__(self, other):
        return Bundle(self.rows + other.rows)

    def __sub__(self, other):
        return Bundle(self.rows + (-other).rows)

    def __neg__(self):
        return Bundle([(asset, -quantity) for asset, quantity in self.rows])

    def __eq__(self, other):
        return isinstance(other, Bundle) and self.rows == other.rows

    def __contains__(self, asset):
        return asset in self._quantities

    def __bool__(self):
        return bool(self.rows)

    def __iter__(self):
        return iter(self.rows)
