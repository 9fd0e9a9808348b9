"""The meaning of scripts: their evaluation on facts, with a budget of steps."""

from keptcoin.scripts.endings import Ended, value_in
from keptcoin.scripts.functions import call_function, compute, fact_value
from keptcoin.scripts.terms import FUNCTIONS, head_word, parts

BUDGET = 5000


class Run:
    """An evaluation that is under way."""

    def __init__(self, definitions, facts, budget):
        self.definitions = {name: (parameters, term) for name, parameters, term in definitions}
        self.facts = facts
        self.budget = budget
        self.steps = 0
        self.notes = []

    def step(self):
        """Counts a step, if the budget has one left."""
        if self.steps >= self.budget:
            raise Ended("tired")
        self.steps += 1


def evaluate(script, facts, *, budget=BUDGET):
    """The outcome (ending, value, notes, steps) of the evaluation of a script."""
    definitions, body = script
    run = Run(definitions, facts, budget)
    try:
        value = _value(run, body, {})
    except Ended as e:
        return (e.ending, None, tuple(run.notes), run.steps)
    return ("value", value, tuple(run.notes), run.steps)


def verdict_of(outcome):
    """The value of an outcome that has one, otherwise its ending."""
    return outcome[1] if outcome[0] == "value" else outcome[0]


def _value(run, term, bound):
    """The value of a term whose variables have the values of a dict."""
    run.step()
    special = _SPECIAL.get(head_word(term))
    if special is not None:
        return special(run, term, bound)
    values = []
    for part in parts(term):
        values.append(_value(run, part, bound))
    return _value_with(run, term, values)


def _value_with(run, term, values):
    """The value of a term all of whose parts are evaluated, with their values."""
    form = term[0]
    if form in ("number", "truth"):
        return term[1]
    if form == "fact":
        return value_in(fact_value(term[1], run.facts))
    if form == "fail":
        raise Ended("fail")
    if form == "minus":
        return -values[0]
    if form == "not":
        return not values[0]
    if form == "binary":
        return value_in(compute(term[1], values[0], values[1]))
    if form == "pair":
        return ("pair", values[0], values[1])
    if form == "list":
        return ("list", tuple(values))
    return _called(run, term[1], values)


def _called(run, name, values):
    """The value of a call with the values of its arguments."""
    if name in FUNCTIONS:
        return value_in(call_function(name, values, run.facts))
    parameters, term = run.definitions[name]
    return _value(run, term, dict(zip(parameters, values)))


# The forms below do not evaluate all their parts, or do something between them.


def _variable(run, term, bound):
    return bound[term[1]]


def _let(run, term, bound):
    first, second = parts(term)
    value = _value(run, first, bound)
    return _value(run, second, {**bound, term[1]: value})


def _if(run, term, bound):
    condition, first, second = parts(term)
    if _value(run, condition, bound):
        return _value(run, first, bound)
    return _value(run, second, bound)


def _and(run, term, bound):
    first, second = parts(term)
    if not _value(run, first, bound):
        return False
    return _value(run, second, bound)


def _or(run, term, bound):
    first, second = parts(term)
    if _value(run, first, bound):
        return True
    return _value(run, second, bound)


def _fold(run, term, bound):
    items, start, each = parts(term)
    values = _value(run, items, bound)[1]
    result = _value(run, start, bound)
    for value in values:
        result = _value(run, each, {**bound, term[1]: value, term[2]: result})
    return result


def _note(run, term, bound):
    noted, behind = parts(term)
    run.notes.append(_value(run, noted, bound))
    return _value(run, behind, bound)


_SPECIAL = {
    "variable": _variable,
    "let": _let,
    "if": _if,
    "and": _and,
    "or": _or,
    "fold": _fold,
    "note": _note,
}
