"""Free variables of terms, and putting terms in their places."""

from keptcoin.scripts.terms import scopes, with_parts


def free_variables(term):
    """The variables that stand in a term where it does not bind them, ascending and each once."""
    return sorted(set(_free(term)))


def _free(term):
    """The free variables of a term, one for each place."""
    if term[0] == "variable":
        return [term[1]]
    found = []
    for part, bound in scopes(term):
        found.extend([name for name in _free(part) if name not in bound])
    return found


def captures(term, table):
    """True if a variable that is free in a term of the dict would be bound at the place where that is put."""
    free = {name: free_variables(table[name]) for name in table}
    return _captures(term, free, ())


def _captures(term, free, binders):
    """The same with the free variables of the terms that are put, and the variables that are bound around."""
    if term[0] == "variable":
        name = term[1]
        return name not in binders and any([other in binders for other in free.get(name, ())])
    return any([_captures(part, free, binders + bound) for part, bound in scopes(term)])


def put(term, table):
    """The term with the terms of a dict in the places of its free variables, all at once. Nothing is renamed."""
    if term[0] == "variable":
        return table.get(term[1], term)
    inner = []
    for part, bound in scopes(term):
        inner.append(put(part, {name: table[name] for name in table if name not in bound}))
    return with_parts(term, inner)
