"""Sums and differences of bundles."""

from keptcoin.amounts.assets import COIN
from keptcoin.amounts.bundle import Bundle


def total(bundles):
    """The sum of a list of bundles."""
    rows = []
    for bundle in bundles:
        rows.extend(bundle.rows)
    return Bundle(rows)


def policies(bundle):
    """The policies of the assets of a bundle, coin left out, ascending and each once."""
    return sorted({asset[0] for asset, quantity in bundle.rows if asset != COIN})


def split(bundle):
    """What the bundle has more than nothing of, and how much it lacks of the rest."""
    gains = Bundle([(asset, quantity) for asset, quantity in bundle.rows if quantity > 0])
    losses = Bundle([(asset, -quantity) for asset, quantity in bundle.rows if quantity < 0])
    return (gains, losses)


def shortfall(have, need):
    """What has to be added to one bundle of each asset of which the other one has more."""
    gains, _ = split(need - have)
    return gains
