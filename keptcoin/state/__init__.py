"""The state of a ledger, and the books of its unspent outputs."""
