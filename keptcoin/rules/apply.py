"""Applying transactions to a state."""

from keptcoin.errors import WrongClaim
from keptcoin.rules.phase_one import examine
from keptcoin.rules.phase_two import are_permitted, verdicts
from keptcoin.tx.shape import check_shape


def apply_transaction(state, tx, params):
    """Changes the state as the transaction says. Returns whether it is approved, or raises and changes nothing."""
    check_shape(tx, params)
    examine(state, tx, params)
    pairs = verdicts(state, tx)
    approved = are_permitted(pairs)
    if approved != tx.approved:
        raise WrongClaim(tuple(pairs))
    # Nothing below can be refused any more, so the state never changes by half.
    if approved:
        _carry_out(state, tx, params)
    else:
        _take_pledge(state, tx)
    state.use(tx.number)
    return approved


def _carry_out(state, tx, params):
    for ref in tx.spends:
        state.remove_output(ref)
    for index, output in enumerate(tx.makes):
        state.add_output((tx.number, index), output)
    # A key that leaves draws its reward first.
    for key, amount in tx.draws:
        deposit, reward = state.account(key)
        state.set_account(key, (deposit, reward - amount))
    for word, key in tx.deeds:
        state.set_account(key, (params.deposit, 0) if word == "join" else None)
    state.set_pot("fees", state.fees + tx.fee)


def _take_pledge(state, tx):
    coin = 0
    for ref in tx.pledge:
        coin += state.remove_output(ref).bundle.coin
    state.set_pot("fees", state.fees + coin)
