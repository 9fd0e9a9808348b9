"""Applying blocks to a state."""

from keptcoin.epochs.clock import advance
from keptcoin.errors import BadBlock, KeptError
from keptcoin.rules.apply import apply_transaction


def apply_block(state, block, params):
    """Moves the clock, applies the transactions and tells which are approved, or raises and changes nothing."""
    mark = state.mark()
    advance(state, block.slot, params)
    approved = []
    for index, tx in enumerate(block.txs):
        try:
            approved.append(apply_transaction(state, tx, params))
        except KeptError:
            state.rewind(mark)
            raise BadBlock((block.number, index))
    return approved
