"""The check that names are used well in a script."""

from keptcoin.errors import BadUse
from keptcoin.scripts.terms import FUNCTIONS, scopes


def check_uses(script):
    """Raises BadUse for the first wrong use."""
    definitions, body = script
    arities = dict(FUNCTIONS)
    earlier = []
    for name, parameters, term in definitions:
        _check_new(name, earlier)
        _check_parameters(parameters)
        _check_term(term, parameters, arities)
        earlier.append(name)
        arities[name] = len(parameters)
    _check_term(body, (), arities)


def _check_new(name, earlier):
    if name in earlier:
        raise BadUse(name)


def _check_parameters(parameters):
    for index, name in enumerate(parameters):
        _check_new(name, parameters[:index])


def _check_term(term, bound, arities):
    """Checks a term in which the variables of a tuple are bound."""
    _check_root(term, bound, arities)
    for part, variables in scopes(term):
        _check_term(part, bound + variables, arities)


def _check_root(term, bound, arities):
    """Checks what the term itself uses, not its parts."""
    form = term[0]
    if form == "variable" and term[1] not in bound:
        raise BadUse(term[1])
    if form == "call" and arities.get(term[1], -1) != len(term[2]):
        raise BadUse(term[1])
    if form == "fold" and term[1] == term[2]:
        raise BadUse(term[1])
