"""How much is shared out at the end of an epoch, and to whom."""


def growth(reserve, share):
    """How much of the reserve is shared out; share is in thousandths."""
    return reserve * share // 1000


def shares(pot, rows):
    """The pairs (key, share) for the rows (key, coin), and what is left of the pot."""
    whole = sum([coin for key, coin in rows])
    given = [(key, pot * coin // whole if whole > 0 else 0) for key, coin in rows]
    return (given, pot - sum([share for key, share in given]))
