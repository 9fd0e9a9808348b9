"""What an output has to hold, and what a transaction weighs and has to pay."""


def least_coin(output, params):
    """The least coin of an output."""
    return params.coin_base + len(output.bundle.rows) + len(output.datum)


def weight(tx):
    """The weight of a transaction."""
    references = len(tx.spends) + len(tx.looks)
    made = sum([_weight_of_output(output) for output in tx.makes])
    data = sum([2 + len(datum) for purpose, datum in tx.data])
    rows = len(tx.mint.rows) + len(tx.deeds) + len(tx.draws)
    return 5 + 2 * references + made + len(tx.signers) + data + 2 * rows


def _weight_of_output(output):
    word, place = output.address
    text = len(place) // 10 if word == "script" else 0
    return 2 + 2 * len(output.bundle.rows) + len(output.datum) + text


def least_fee(tx, steps, params):
    """The least fee of a transaction whose scripts may take so many steps."""
    return params.fee_base + params.fee_weight * weight(tx) + (params.fee_step * steps) // 100
