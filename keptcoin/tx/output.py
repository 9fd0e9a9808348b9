"""Outputs of transactions."""

from keptcoin.amounts.bundle import Bundle
from keptcoin.scripts.facts import are_values


class Output:
    """A bundle at an address, which is ("key", key) or ("script", text), with a datum."""

    def __init__(self, address, bundle, datum=()):
        self.address = address
        self.bundle = Bundle(bundle)
        self.datum = tuple(datum)

    def picture(self):
        """The output as a plain value."""
        return (self.address, self.bundle.rows, self.datum)


def is_datum(datum):
    """True if the integers are a datum within its bounds, which are those of lists in scripts."""
    return are_values(datum)
