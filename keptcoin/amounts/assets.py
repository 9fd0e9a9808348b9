"""Assets, which are pairs of a policy and a name."""

COIN = ("", 0)

_GREATEST_NAME = 10 ** 9


def is_name(number):
    """True if the integer may be a key or the name of an asset."""
    return 0 <= number <= _GREATEST_NAME
