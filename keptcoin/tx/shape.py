"""The shape of transactions: what can be told of them without a state."""

from keptcoin.amounts.assets import COIN, is_name
from keptcoin.errors import (
    BadData, BadDraw, BadFee, BadInterval, BadMint, BadName, BadNumber, BadOutput, BadText, NoSpends, Repeated, TooMany,
)
from keptcoin.tx.fees import least_coin
from keptcoin.tx.output import is_datum
from keptcoin.tx.transaction import LAST_SLOT

_GREATEST_NUMBER = 10 ** 9
_MOST_ROWS = 8
_LONGEST_TEXT = 400
_MOST_QUANTITY = 10 ** 12
_MOST_DRAWN = 10 ** 15


def check_shape(tx, params):
    """Raises the error of the first rule that the transaction breaks."""
    if not 1 <= tx.number <= _GREATEST_NUMBER:
        raise BadNumber(tx.number)
    _check_lengths(tx)
    if tx.spends == ():
        raise NoSpends()
    _check_repeated(tx)
    for name in _names(tx):
        if not is_name(name):
            raise BadName(name)
    for text in _texts(tx):
        if not 1 <= len(text) <= _LONGEST_TEXT:
            raise BadText(text)
    for index, output in enumerate(tx.makes):
        if not _is_good_output(output, params):
            raise BadOutput(index)
    for asset, quantity in tx.mint.rows:
        if asset == COIN or not -_MOST_QUANTITY <= quantity <= _MOST_QUANTITY:
            raise BadMint(asset)
    if not 0 <= tx.fee <= _MOST_QUANTITY:
        raise BadFee(tx.fee)
    if not 0 <= tx.begins <= tx.ends <= LAST_SLOT:
        raise BadInterval((tx.begins, tx.ends))
    for purpose, datum in tx.data:
        if not is_datum(datum):
            raise BadData(purpose)
    for key, amount in tx.draws:
        if not 1 <= amount <= _MOST_DRAWN:
            raise BadDraw(key)


def _check_lengths(tx):
    """Rule 2."""
    for field, items, most in [
        ("spends", tx.spends, 8),
        ("looks", tx.looks, 8),
        ("pledge", tx.pledge, 4),
        ("makes", tx.makes, 8),
        ("mint", tx.mint.rows, 8),
        ("signers", tx.signers, 8),
        ("data", tx.data, 16),
        ("deeds", tx.deeds, 4),
        ("draws", tx.draws, 4),
    ]:
        if len(items) > most:
            raise TooMany(field)


def _check_repeated(tx):
    """Rule 4."""
    purposes = [purpose for purpose, datum in tx.data]
    for items in (tx.spends + tx.looks, tx.pledge, tx.signers, purposes, _deed_keys(tx), _draw_keys(tx)):
        check_different(items)


def check_different(items):
    """Raises Repeated for the first item of a list or tuple that equals an earlier one."""
    for index, item in enumerate(items):
        if item in items[:index]:
            raise Repeated(item)


def _deed_keys(tx):
    return [key for word, key in tx.deeds]


def _draw_keys(tx):
    return [key for key, amount in tx.draws]


def _names(tx):
    """The keys and the names of assets, in the order in which rule 5 takes them."""
    names = []
    for output in tx.makes:
        word, place = output.address
        if word == "key":
            names.append(place)
        names.extend(_names_in(output.bundle))
    return names + _names_in(tx.mint) + list(tx.signers) + _deed_keys(tx) + _draw_keys(tx)


def _names_in(bundle):
    return [asset[1] for asset, quantity in bundle.rows]


def _texts(tx):
    """The texts of scripts and the policies of assets, in the order in which rule 6 takes them."""
    texts = []
    for output in tx.makes:
        word, place = output.address
        if word == "script":
            texts.append(place)
        texts.extend(_policies_in(output.bundle))
    return texts + _policies_in(tx.mint)


def _policies_in(bundle):
    return [asset[0] for asset, quantity in bundle.rows if asset != COIN]


def _is_good_output(output, params):
    """Rule 7."""
    rows = output.bundle.rows
    if len(rows) > _MOST_ROWS or not all([1 <= quantity <= _MOST_QUANTITY for asset, quantity in rows]):
        return False
    return is_datum(output.datum) and output.bundle.coin >= least_coin(output, params)
