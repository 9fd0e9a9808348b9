"""Transactions."""

from keptcoin.amounts.bundle import Bundle

LAST_SLOT = 10 ** 9


class Transaction:
    """A transaction. It may be made with values that no ledger accepts."""

    def __init__(self, *, number, spends, makes, fee, looks=(), pledge=(), mint=(), begins=0, ends=LAST_SLOT,
                 signers=(), data=(), deeds=(), draws=(), approved=True):
        self.number = number
        self.spends = tuple(spends)
        self.looks = tuple(looks)
        self.pledge = tuple(pledge)
        self.makes = tuple(makes)
        self.mint = Bundle(mint)
        self.fee = fee
        self.begins = begins
        self.ends = ends
        self.signers = tuple(signers)
        self.data = tuple([(purpose, tuple(datum)) for purpose, datum in data])
        self.deeds = tuple(deeds)
        self.draws = tuple(draws)
        self.approved = approved

    def picture(self):
        """The transaction as a plain value."""
        makes = tuple([output.picture() for output in self.makes])
        return (self.number, self.spends, self.looks, self.pledge, makes, self.mint.rows, self.fee, self.begins,
                self.ends, self.signers, self.data, self.deeds, self.draws, self.approved)
