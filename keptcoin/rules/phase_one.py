"""The first phase of the rules: all that can be told of a transaction in a state without running its scripts."""

from keptcoin.amounts.bundle import Bundle
from keptcoin.amounts.sums import total
from keptcoin.errors import (
    AlreadyJoined, BadPledge, FeeTooLow, MissingData, NeedlessData, NeedlessPledge, NotJoined, NotSigned,
    OutsideInterval, PledgeTooSmall, Reused, RewardLeft, TooCostly, TooMuch, Unbalanced, UnknownOutput,
)
from keptcoin.rules.needs import purposes, script_steps
from keptcoin.tx.fees import least_fee


def examine(state, tx, params):
    """The steps that all scripts together can take. Raises the error of the first rule that the transaction breaks."""
    if state.is_used(tx.number):
        raise Reused(tx.number)
    if not tx.begins <= state.slot <= tx.ends:
        raise OutsideInterval(state.slot)
    for ref in tx.spends + tx.looks + tx.pledge:
        if state.output(ref) is None:
            raise UnknownOutput(ref)
    _check_signers(state, tx)
    _check_draws(state, tx)
    _check_deeds(state, tx)
    # This raises BadLock before the data are looked at.
    steps = script_steps(state, tx)
    _check_data(state, tx)
    if steps > params.most_steps:
        raise TooCostly(steps)
    least = least_fee(tx, steps, params)
    if tx.fee < least:
        raise FeeTooLow(least)
    _check_pledge(state, tx, params)
    unbalanced = difference(state, tx, params)
    if unbalanced:
        raise Unbalanced(unbalanced.rows)
    return steps


def _check_signers(state, tx):
    """Rule 4."""
    addresses = [state.output(ref).address for ref in tx.spends + tx.pledge]
    keys = [place for word, place in addresses if word == "key"]
    keys.extend([key for word, key in tx.deeds])
    keys.extend([key for key, amount in tx.draws])
    for key in keys:
        if key not in tx.signers:
            raise NotSigned(key)


def _check_draws(state, tx):
    """Rule 5."""
    for key, amount in tx.draws:
        account = state.account(key)
        if account is None:
            raise NotJoined(key)
        if amount > account[1]:
            raise TooMuch(key)


def _check_deeds(state, tx):
    """Rule 6."""
    drawn = dict(tx.draws)
    for word, key in tx.deeds:
        account = state.account(key)
        if word == "join":
            if account is not None:
                raise AlreadyJoined(key)
        elif account is None:
            raise NotJoined(key)
        elif account[1] != drawn.get(key, 0):
            raise RewardLeft(key)


def _check_data(state, tx):
    """Rule 8."""
    needed = purposes(state, tx)
    known = [purpose for purpose, datum in tx.data]
    for purpose in needed:
        if purpose not in known:
            raise MissingData(purpose)
    for purpose in known:
        if purpose not in needed:
            raise NeedlessData(purpose)


def _check_pledge(state, tx, params):
    """Rule 11."""
    if not purposes(state, tx):
        if tx.pledge != ():
            raise NeedlessPledge()
        return
    coin = 0
    for ref in tx.pledge:
        output = state.output(ref)
        if output.address[0] == "script" or output.bundle.tokens():
            raise BadPledge(ref)
        coin += output.bundle.coin
    if coin * 100 < tx.fee * params.pledge_rate:
        raise PledgeTooSmall(coin)


def difference(state, tx, params):
    """What a transaction takes in less what it gives out, a bundle."""
    taken = total([state.output(ref).bundle for ref in tx.spends]) + tx.mint
    made = total([output.bundle for output in tx.makes])
    coin = sum([amount for key, amount in tx.draws]) - tx.fee
    for word, key in tx.deeds:
        if word == "join":
            coin -= params.deposit
        else:
            coin += state.account(key)[0]
    return taken - made + Bundle.of_coin(coin)
