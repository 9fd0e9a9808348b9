"""Texts of validators for some common contracts."""

# Whether some made output goes on with the contract and its token, with the number as its datum.
_CARRIED = (
    "def carried(n) = fold o found in made from false do found or homed(o) and held(o, 0) == 1"
    " and count(data(o)) == 1 and head(data(o)) == n; "
)


def one_time(number, index):
    """Permits a transaction that spends this output, which can happen but once."""
    return f"spends({number}, {index})"


def locked_until(slot, key):
    """Permits a transaction that the key signs and that cannot stand in an earlier slot."""
    return f"{slot} <= begins and signed({key})"


def some_of(keys, needed):
    """Permits a transaction that so many of the keys sign."""
    listed = ", ".join([str(key) for key in keys])
    return f"{needed} <= (fold key many in [{listed}] from 0 do if signed(key) then many + 1 else many)"


def counter(number, index):
    """Mints one token where this output is spent, and lets it go on only with a datum that is greater by 1."""
    # The argument of the call is computed first, so an empty datum is missing whatever outputs are made.
    goes_on = "held(here, 0) == 1 and minted(0) == 0 and carried(head(datum) + 1)"
    begins = f"spends({number}, {index}) and minted(0) == 1 and carried(0)"
    return _CARRIED + f"if guarding then {goes_on} else {begins}"
