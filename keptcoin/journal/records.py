"""Transactions and blocks from their pictures, and the lines of calls."""

from keptcoin.chain.block import Block
from keptcoin.errors import BadRecord
from keptcoin.journal.notation import read, write
from keptcoin.tx.output import Output
from keptcoin.tx.transaction import Transaction


def line_of(word, picture):
    """The line of a call."""
    return word + " " + write(picture)


def call_of(line):
    """The word of a line, and the transaction or block that the call is made with."""
    word, space, rest = line.partition(" ")
    if space == "" or word not in ("submit", "offer"):
        raise BadRecord()
    picture = read(rest)
    return (word, transaction_of(picture) if word == "submit" else block_of(picture))


def transaction_of(picture):
    """The transaction with this picture."""
    if not _is_transaction(picture):
        raise BadRecord()
    number, spends, looks, pledge, makes, mint, fee, begins, ends, signers, data, deeds, draws, approved = picture
    return Transaction(
        number=number,
        spends=spends,
        looks=looks,
        pledge=pledge,
        makes=[Output(address, rows, datum) for address, rows, datum in makes],
        mint=mint,
        fee=fee,
        begins=begins,
        ends=ends,
        signers=signers,
        data=data,
        deeds=deeds,
        draws=draws,
        approved=approved,
    )


def block_of(picture):
    """The block with this picture."""
    if not _is_block(picture):
        raise BadRecord()
    number, parent, slot, txs = picture
    return Block(number=number, parent=parent, slot=slot, txs=[transaction_of(tx) for tx in txs])


# What pictures are made of. Each of these functions takes any value.


def _is_integer(value):
    return isinstance(value, int) and not isinstance(value, bool)


def _is_truth(value):
    return isinstance(value, bool)


def _is_tuple(value, length):
    return isinstance(value, tuple) and len(value) == length


def _are_all(values, check):
    """True for a tuple of values that all pass the check."""
    return isinstance(values, tuple) and all([check(value) for value in values])


def _are_integers(values):
    return _are_all(values, _is_integer)


def _is_pair(value):
    """True for a pair of integers."""
    return _is_tuple(value, 2) and _are_integers(value)


def _are_pairs(values):
    return _are_all(values, _is_pair)


def _is_asset(value):
    return _is_tuple(value, 2) and isinstance(value[0], str) and _is_integer(value[1])


def _is_row(value):
    return _is_tuple(value, 2) and _is_asset(value[0]) and _is_integer(value[1]) and value[1] != 0


def _are_rows(values):
    """True for the rows of a bundle."""
    if not _are_all(values, _is_row):
        return False
    assets = [asset for asset, quantity in values]
    return all([earlier < later for earlier, later in zip(assets, assets[1:])])


def _is_address(value):
    if not _is_tuple(value, 2):
        return False
    return value[0] == "key" and _is_integer(value[1]) or value[0] == "script" and isinstance(value[1], str)


def _is_output(value):
    return _is_tuple(value, 3) and _is_address(value[0]) and _are_rows(value[1]) and _are_integers(value[2])


def _are_outputs(values):
    return _are_all(values, _is_output)


def _is_purpose(value):
    if not _is_tuple(value, 2):
        return False
    return value[0] == "spend" and _is_pair(value[1]) or value[0] == "mint" and isinstance(value[1], str)


def _is_told(value):
    """True for a row of data."""
    return _is_tuple(value, 2) and _is_purpose(value[0]) and _are_integers(value[1])


def _are_data(values):
    return _are_all(values, _is_told)


def _is_deed(value):
    return _is_tuple(value, 2) and value[0] in ("join", "leave") and _is_integer(value[1])


def _are_deeds(values):
    return _are_all(values, _is_deed)


# One for each item of the picture of a transaction, in order.
_CHECKS = (
    _is_integer,
    _are_pairs,
    _are_pairs,
    _are_pairs,
    _are_outputs,
    _are_rows,
    _is_integer,
    _is_integer,
    _is_integer,
    _are_integers,
    _are_data,
    _are_deeds,
    _are_pairs,
    _is_truth,
)


def _is_transaction(picture):
    if not _is_tuple(picture, len(_CHECKS)):
        return False
    for index, item in enumerate(picture):
        check = _CHECKS[index]
        if not check(item):
            return False
    return True


def _is_block(picture):
    return _is_tuple(picture, 4) and _are_integers(picture[:3]) and _are_all(picture[3], _is_transaction)
