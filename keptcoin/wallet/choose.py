"""The choice of outputs of a key."""

from keptcoin.errors import NoPledge

_MOST_PLEDGED = 4


def sources(state, key):
    """The references of the outputs at the address of a key, those with the most coin first."""
    rows = [(-state.output(ref).bundle.coin, ref) for ref in state.books.refs_of(("key", key))]
    return [ref for coin, ref in sorted(rows)]


def pledge_for(state, key, fee, params):
    """The fewest first sources without other assets whose coin suffices for a pledge."""
    plain = [ref for ref in sources(state, key) if not state.output(ref).bundle.tokens()]
    pledge = []
    lacking = fee * params.pledge_rate
    for ref in plain[:_MOST_PLEDGED]:
        if lacking <= 0:
            break
        pledge.append(ref)
        lacking -= state.output(ref).bundle.coin * 100
    if lacking > 0:
        raise NoPledge()
    return pledge
