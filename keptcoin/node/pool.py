"""Transactions that wait for a block."""

from keptcoin.errors import KeptError
from keptcoin.rules.apply import apply_transaction


def fitting(state, txs, params, many):
    """Those of the transactions that apply one behind another, so many at most. The state stays as it is."""
    mark = state.mark()
    chosen = []
    for tx in txs:
        if len(chosen) == many:
            break
        try:
            apply_transaction(state, tx, params)
        except KeptError:
            continue
        chosen.append(tx)
    state.rewind(mark)
    return chosen


def answer_behind(state, txs, tx, params):
    """Whether a transaction is approved behind others that apply, or the error. The state stays as it is."""
    mark = state.mark()
    for other in txs:
        apply_transaction(state, other, params)
    try:
        approved = apply_transaction(state, tx, params)
    except KeptError:
        state.rewind(mark)
        raise
    state.rewind(mark)
    return approved
