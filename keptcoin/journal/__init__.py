"""The journal: plain data as texts, lines of calls, and the recovery of a node."""
