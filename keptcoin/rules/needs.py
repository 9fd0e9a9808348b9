"""The scripts that a transaction needs, and what they are told. All outputs that it spends or looks at are unspent."""

from keptcoin.amounts.sums import policies
from keptcoin.errors import BadLock, ScriptError
from keptcoin.scripts.facts import Facts
from keptcoin.scripts.script import Script


def purposes(state, tx):
    """The purposes: ("spend", reference) for each guarded output that is spent, then ("mint", policy)."""
    spends = [("spend", ref) for ref in tx.spends if state.output(ref).address[0] == "script"]
    return spends + [("mint", policy) for policy in policies(tx.mint)]


def script_text(state, purpose):
    """The text of the script that a purpose names."""
    word, item = purpose
    return state.output(item).address[1] if word == "spend" else item


def facts_of(state, tx, purpose):
    """What the script of a purpose is told."""
    word, item = purpose
    here = _row(item, state.output(item)) if word == "spend" else None
    redeemers = [datum for other, datum in tx.data if other == purpose]
    return Facts(
        begins=tx.begins,
        ends=tx.ends,
        signers=tx.signers,
        spent=[_row(ref, state.output(ref)) for ref in tx.spends],
        looked=[_row(ref, state.output(ref)) for ref in tx.looks],
        made=[_row(None, output) for output in tx.makes],
        mint=tx.mint,
        own=script_text(state, purpose),
        here=here,
        datum=() if here is None else here[3],
        redeemer=redeemers[0] if redeemers else (),
    )


def _row(ref, output):
    return (ref, output.address, output.bundle, output.datum)


def script_steps(state, tx):
    """How many steps all scripts together can take."""
    many = max(len(tx.spends), len(tx.looks), len(tx.makes), len(tx.signers))
    steps = 0
    for purpose in purposes(state, tx):
        steps += _validator(script_text(state, purpose)).bound(many)
    return steps


def _validator(text):
    """The script of a text, which has to be a validator."""
    try:
        script = Script(text)
    except ScriptError:
        raise BadLock(text)
    if not script.is_validator:
        raise BadLock(text)
    return script
