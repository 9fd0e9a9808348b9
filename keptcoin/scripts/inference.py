"""The kinds of scripts: of their definitions, of their bodies and of all their terms."""

from keptcoin.errors import NoKind
from keptcoin.scripts.kinds import INT, replace, unknowns
from keptcoin.scripts.signatures import FACT_KINDS, FORM_SIGNATURES, FUNCTION_SIGNATURES
from keptcoin.scripts.terms import head_word, scopes
from keptcoin.scripts.unifying import unify


class Equations:
    """What has to hold of the kinds of a definition or of the body. Each term has an unknown of its own."""

    def __init__(self, signatures):
        # The signatures of the definitions that may be called, by name.
        self.signatures = signatures
        self.pairs = []
        # The unknowns of the terms, in the order of walking.
        self.kinds = []
        self.latest = -1

    def fresh(self):
        """An unknown that was not there before."""
        self.latest += 1
        return ("any", self.latest)

    def instance(self, wanted, result):
        """The kinds of a signature, with unknowns that were not there before in the places of its own."""
        table = {}
        for kind in (*wanted, result):
            for number in unknowns(kind):
                if number not in table:
                    table[number] = self.fresh()
        return ([replace(kind, table) for kind in wanted], replace(result, table))

    def read(self, term, scope):
        """The unknown of a term whose variables have the kinds of a dict. Adds all equations of the term."""
        own = self.fresh()
        self.kinds.append(own)
        if term[0] == "variable":
            self.pairs.append((own, scope[term[1]]))
            return own
        wanted, result = _signature_of(term, self.signatures)
        wanted, result = self.instance(wanted, result)
        self.pairs.append((own, result))
        inner = _inner_scope(term, wanted, scope)
        for kind, (part, variables) in zip(wanted, scopes(term)):
            found = self.read(part, inner if variables else scope)
            self.pairs.append((kind, found))
        return own


def infer_script(script):
    """The pair of the signatures of the definitions and the kind of the body."""
    solved = _solve_script(script)
    signatures = [(parameters, kinds[0]) for parameters, kinds in solved]
    _, kind = signatures.pop()
    return (tuple(signatures), kind)


def annotate(script):
    """For each definition and then the body, the list of the kinds of its terms in the order of walking."""
    return [kinds for parameters, kinds in _solve_script(script)]


def _solve_script(script):
    """For each definition and then the body, the tuple of its parameters' kinds and the list of its terms' kinds."""
    definitions, body = script
    signatures = {}
    solved = []
    for index, (name, parameters, term) in enumerate([*definitions, ("", (), body)]):
        try:
            kinds_of_parameters, kinds = _solve(parameters, term, signatures)
        except NoKind:
            raise NoKind(index)
        signatures[name] = (kinds_of_parameters, kinds[0])
        solved.append((kinds_of_parameters, kinds))
    return solved


def _solve(parameters, term, signatures):
    """The kinds of the parameters and of the terms of one definition, in the most general way."""
    equations = Equations(signatures)
    scope = {}
    for name in parameters:
        scope[name] = equations.fresh()
    equations.read(term, scope)
    table = unify(equations.pairs)
    kinds = [scope[name] for name in parameters] + equations.kinds
    numbered = _number_anew([replace(kind, table) for kind in kinds])
    return (tuple(numbered[:len(parameters)]), numbered[len(parameters):])


def _number_anew(kinds):
    """The kinds with their unknowns numbered from 0, in the order in which they appear first."""
    table = {}
    for kind in kinds:
        for number in unknowns(kind):
            if number not in table:
                table[number] = ("any", len(table))
    return [replace(kind, table) for kind in kinds]


def _signature_of(term, signatures):
    """The kinds of the parts of a term that is no variable, and its own kind."""
    form = term[0]
    if form == "fact":
        return ((), FACT_KINDS[term[1]])
    if form == "list" and term[1] == ():
        return ((), ("list", ("any", 0)))
    if form == "list":
        return ((INT,) * len(term[1]), ("list", INT))
    if form == "call" and term[1] in FUNCTION_SIGNATURES:
        return FUNCTION_SIGNATURES[term[1]]
    if form == "call":
        return signatures[term[1]]
    return FORM_SIGNATURES[head_word(term)]


def _inner_scope(term, wanted, scope):
    """The kinds of the variables where those that the term itself binds are bound, too."""
    if term[0] == "let":
        return {**scope, term[1]: wanted[0]}
    if term[0] == "fold":
        # The list that is wanted has the kind of its items in it.
        return {**scope, term[1]: wanted[0][1], term[2]: wanted[1]}
    return scope
