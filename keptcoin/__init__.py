"""Keptcoin: a ledger of several assets guarded by scripts."""
