"""Transactions: what they are made of, their fees and their shape."""
