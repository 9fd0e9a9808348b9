"""The simplifier: the same outcome with no more steps."""

from keptcoin.scripts.binding import captures, free_variables, put
from keptcoin.scripts.folding import is_light, is_safe, root_rules
from keptcoin.scripts.terms import parts, size, walk, with_parts

# A definition of which the term is greater is called, not put in the place of the call.
_MOST_PUT = 8


def simplify_term(term, definitions):
    """The simplified term. Definitions is a dict from names to pairs (parameters, simplified term)."""
    simple = with_parts(term, [simplify_term(part, definitions) for part in parts(term)])
    if simple[0] == "let":
        return _simplify_let(simple)
    if simple[0] == "call" and simple[1] in definitions:
        return _simplify_call(simple, definitions)
    return root_rules(simple)


def _simplify_let(term):
    """Rule 8."""
    _, name, value, behind = term
    if behind == ("variable", name):
        return value
    table = {name: value}
    if is_light(value) and not captures(behind, table):
        return put(behind, table)
    if is_safe(value) and name not in free_variables(behind):
        return behind
    return term


def _simplify_call(term, definitions):
    """Rule 10."""
    _, name, arguments = term
    parameters, inner = definitions[name]
    if size(inner) > _MOST_PUT or not all([is_light(argument) for argument in arguments]):
        return term
    table = dict(zip(parameters, arguments))
    return term if captures(inner, table) else put(inner, table)


def simplify_script(script):
    """The simplified script, without the definitions that it no longer needs."""
    definitions, body = script
    known = {}
    for name, parameters, term in definitions:
        known[name] = (parameters, simplify_term(term, known))
    simple_body = simplify_term(body, known)
    needed = _reached(known, simple_body)
    kept = [(name, known[name][0], known[name][1]) for name in known if name in needed]
    return (tuple(kept), simple_body)


def _reached(known, body):
    """The names of the definitions that the body needs, as the keys of a dict."""
    found = {name: True for name in _called(body)}
    # Definitions call only earlier ones, so the latest one comes first.
    for name in list(known)[::-1]:
        if name in found:
            for other in _called(known[name][1]):
                found[other] = True
    return found


def _called(term):
    """The names in the calls of a term, those of functions too."""
    return [part[1] for part in walk(term) if part[0] == "call"]
