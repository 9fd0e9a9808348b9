"""Epochs: what is shared out at their ends, and the clock."""
