"""The building of transactions that pay."""

from keptcoin.amounts.bundle import Bundle
from keptcoin.errors import NotEnough, ScriptsRefuse, UnknownOutput
from keptcoin.rules.needs import purposes, script_steps
from keptcoin.rules.phase_one import difference, examine
from keptcoin.rules.phase_two import are_permitted, verdicts
from keptcoin.tx.fees import least_coin, least_fee
from keptcoin.tx.output import Output
from keptcoin.tx.shape import check_different, check_shape
from keptcoin.tx.transaction import LAST_SLOT, Transaction
from keptcoin.wallet.choose import pledge_for, sources

_MOST_SPENDS = 8


def build(state, params, *, key, number, pays, mint=(), also=(), data=(), looks=(), signers=(), begins=0,
          ends=LAST_SLOT):
    """The transaction that the wallet builds for a request of the key."""
    # Beside what the request says, it spends only what it has to, and its fee and its pledge are missing.
    draft = Transaction(number=number, spends=also, makes=pays, fee=0, looks=looks, mint=mint, begins=begins,
                        ends=ends, signers=(key, *signers), data=data)
    check_different(draft.spends)
    for ref in draft.spends + draft.looks:
        if state.output(ref) is None:
            raise UnknownOutput(ref)
    # This raises BadLock, also if there is no candidate.
    script_steps(state, draft)
    tx = _balanced(state, params, key, draft)
    if purposes(state, tx):
        tx = _changed(tx, tx.spends, tx.makes, tx.fee, pledge_for(state, key, tx.fee, params))
    check_shape(tx, params)
    examine(state, tx, params)
    pairs = verdicts(state, tx)
    if not are_permitted(pairs):
        raise ScriptsRefuse(tuple(pairs))
    return tx


def _changed(tx, spends, makes, fee, pledge=()):
    """The transaction with others of these fields."""
    return Transaction(number=tx.number, spends=spends, makes=makes, fee=fee, looks=tx.looks, pledge=pledge,
                       mint=tx.mint, begins=tx.begins, ends=tx.ends, signers=tx.signers, data=tx.data)


def _balanced(state, params, key, draft):
    """The first candidate that balances, without its pledge."""
    free = [ref for ref in sources(state, key) if ref not in draft.spends]
    least = 0 if draft.spends else 1
    most = min(_MOST_SPENDS - len(draft.spends), len(free))
    for many in range(least, most + 1):
        tx = _changed(draft, [*draft.spends, *free[:many]], draft.makes, 0)
        rest = difference(state, tx, params)
        with_change = _with_change(state, params, tx, key, rest)
        if with_change is not None:
            return with_change
        if not rest.tokens() and rest.coin >= _least_fee_of(state, params, tx):
            return _changed(tx, tx.spends, tx.makes, rest.coin)
    raise NotEnough()


def _with_change(state, params, tx, key, rest):
    """The candidate that gives the rest back to the key, but for the fee; None if it cannot."""
    whole = _changed(tx, tx.spends, [*tx.makes, Output(("key", key), rest)], 0)
    fee = _least_fee_of(state, params, whole)
    change = Output(("key", key), rest - Bundle.of_coin(fee))
    if change.bundle.coin < least_coin(change, params):
        return None
    if not all([quantity > 0 for asset, quantity in change.bundle.rows]):
        return None
    return _changed(tx, tx.spends, [*tx.makes, change], fee)


def _least_fee_of(state, params, tx):
    return least_fee(tx, script_steps(state, tx), params)
