"""Facts, which are what a script is told."""

from keptcoin.amounts.bundle import Bundle
from keptcoin.errors import BadFacts
from keptcoin.scripts.terms import MOST, MOST_ITEMS


class Facts:
    """What a script is told. Rows of outputs are tuples (reference, address, bundle, datum)."""

    def __init__(self, *, begins=0, ends=0, signers=(), spent=(), looked=(), made=(), mint=(), own="", here=None,
                 datum=(), redeemer=()):
        self.begins = begins
        self.ends = ends
        self.signers = tuple(signers)
        self.spent = _kept_rows(spent)
        self.looked = _kept_rows(looked)
        self.made = _kept_rows(made)
        self.mint = Bundle(mint)
        self.own = own
        self.here = None if here is None else _kept_row(here)
        self.datum = tuple(datum)
        self.redeemer = tuple(redeemer)
        for field, good in _checked_fields(self):
            if not good:
                raise BadFacts(field)

    @property
    def many(self):
        """The greatest number of items of spent, looked, made and signers."""
        return max(len(self.spent), len(self.looked), len(self.made), len(self.signers))


def _kept_rows(rows):
    return tuple([_kept_row(row) for row in rows])


def _kept_row(row):
    """The row with its datum as a tuple."""
    reference, address, bundle, datum = row
    return (reference, address, bundle, tuple(datum))


def _checked_fields(facts):
    """The pairs of a field and whether it keeps the limits, in the order in which they are looked at."""
    return [
        ("begins", _is_value(facts.begins)),
        ("ends", _is_value(facts.ends)),
        ("signers", are_values(facts.signers)),
        ("spent", _are_rows(facts.spent)),
        ("looked", _are_rows(facts.looked)),
        ("made", _are_rows(facts.made)),
        ("here", facts.here is None or are_values(facts.here[3])),
        ("datum", are_values(facts.datum)),
        ("redeemer", are_values(facts.redeemer)),
    ]


def _is_value(number):
    return -MOST <= number <= MOST


def are_values(numbers):
    """True if the list or tuple of integers could be the value of a script."""
    return len(numbers) <= MOST_ITEMS and all([_is_value(number) for number in numbers])


def _are_rows(rows):
    return len(rows) <= MOST_ITEMS and all([are_values(datum) for reference, address, bundle, datum in rows])
