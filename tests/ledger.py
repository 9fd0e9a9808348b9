"""Short ways to make what the tests of transactions and states need."""

from keptcoin.state.state import State
from keptcoin.tx.output import Output
from keptcoin.tx.transaction import Transaction

COIN = ("", 0)


def key_output(key, coin, *rows, datum=()):
    """An output at the address of a key."""
    return Output(("key", key), [(COIN, coin), *rows], datum)


def script_output(text, coin, *rows, datum=()):
    """An output at the address of a script."""
    return Output(("script", text), [(COIN, coin), *rows], datum)


def state_of(*outputs):
    """A state with outputs at (0, 0), (0, 1) and so on."""
    state = State([], 0)
    for at, output in enumerate(outputs):
        state.add_output((0, at), output)
    return state


def some_tx(**fields):
    """A transaction with these fields; what is left out is good."""
    return Transaction(**{"number": 1, "spends": [(0, 0)], "makes": [], "fee": 0, **fields})


def paying(number, ref, key, coin, fee=30, **fields):
    """A transaction of a key that gives what an output with so much coin holds back to the key, but for the fee."""
    return some_tx(**{"number": number, "spends": [ref], "makes": [key_output(key, coin - fee)], "fee": fee,
                      "signers": [key], **fields})
