"""The second phase of the rules: running the scripts that a transaction needs."""

from keptcoin.rules.needs import facts_of, purposes, script_text
from keptcoin.scripts.script import Script


def verdicts(state, tx):
    """The pairs (purpose, verdict), in the order of the purposes."""
    return [(purpose, _verdict(state, tx, purpose)) for purpose in purposes(state, tx)]


def _verdict(state, tx, purpose):
    script = Script(script_text(state, purpose))
    return script.verdict(facts_of(state, tx, purpose))


def is_approved(state, tx):
    """True if the script of each purpose permits it."""
    return are_permitted(verdicts(state, tx))


def are_permitted(pairs):
    """True if all verdicts in pairs (purpose, verdict) are True. The word of an error is not."""
    return all([verdict is True for purpose, verdict in pairs])
