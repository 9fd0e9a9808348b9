"""Assets, bundles of them, and sums of bundles."""
