"""Blocks, the tree that they form, and the chain that follows its highest branch."""
