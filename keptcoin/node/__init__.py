"""The node: a chain, a pool of transactions that wait, and a journal."""
