"""The bound of a script: more steps than that are never counted."""

from keptcoin.scripts.terms import MOST_ITEMS, parts

# The facts whose number of items the caller knows.
_COUNTED = ("spent", "looked", "made", "signers")


def step_bound(script, many=8):
    """The bound of a script, where none of the counted facts has more than so many items."""
    definitions, body = script
    bounds = {}
    for name, parameters, term in definitions:
        bounds[name] = _bound(term, bounds, many)
    return _bound(body, bounds, many)


def _bound(term, bounds, many):
    """The bound of a term, with the bounds of the definitions by name."""
    inner = [_bound(part, bounds, many) for part in parts(term)]
    if term[0] == "if":
        return 1 + inner[0] + max(inner[1], inner[2])
    if term[0] == "fold":
        return 1 + inner[0] + inner[1] + _rounds(term[3], many) * inner[2]
    if term[0] == "call":
        return 1 + sum(inner) + bounds.get(term[1], 0)
    return 1 + sum(inner)


def _rounds(items, many):
    """How many items the list of a fold has, at most."""
    if items[0] == "list":
        return len(items[1])
    if items[0] == "fact" and items[1] in _COUNTED:
        return many
    return MOST_ITEMS
