"""What can be told of terms without evaluating them, and the rules of the simplifier for one term alone."""

from keptcoin.scripts.functions import compute
from keptcoin.scripts.terms import head_word, parts

_ZERO = ("number", 0)
_ONE = ("number", 1)
_TRUE = ("truth", True)
_FALSE = ("truth", False)

_LIGHT = ("number", "truth", "variable")

# The words of head_word; calls and facts are looked at more closely.
_SAFE_WORDS = ("number", "truth", "variable", "minus", "not", "pair", "list", "if", "==", "<", "<=", "and", "or")
_SAFE_FUNCTIONS = ("first", "second", "count", "data", "keyed", "homed", "signed", "spends")

# What an operator makes of the same safe term twice.
_OF_THE_SAME = {"-": ("number", 0), "==": ("truth", True), "<=": ("truth", True), "<": ("truth", False)}


def is_light(term):
    """True if the term is a number, a truth or a variable."""
    return term[0] in _LIGHT


def is_safe(term):
    """True if it is plain that the evaluation of the term has a value and notes nothing."""
    word = head_word(term)
    if word == "fact":
        return term[1] != "here"
    if word == "call":
        return term[1] in _SAFE_FUNCTIONS and _are_safe(term[2])
    return word in _SAFE_WORDS and _are_safe(parts(term))


def _are_safe(terms):
    return all([is_safe(term) for term in terms])


def constant(term):
    """The integer of a constant, None for any other term."""
    if term[0] == "number":
        return term[1]
    if term[0] == "minus" and term[1][0] == "number" and term[1][1] > 0:
        return -term[1][1]
    return None


def constant_term(number):
    """The constant of an integer."""
    return ("number", number) if number >= 0 else ("minus", ("number", -number))


def root_rules(term):
    """What the first rule that fits makes of a term whose parts are taken as they are."""
    rule = _RULES.get(head_word(term))
    return term if rule is None else rule(term)


def _minus(term):
    inner = term[1]
    if inner == _ZERO:
        return _ZERO
    return inner[1] if inner[0] == "minus" else term


def _not(term):
    inner = term[1]
    if inner[0] == "truth":
        return ("truth", not inner[1])
    return inner[1] if inner[0] == "not" else term


def _operator(term):
    """The rules 2 to 4, of which each one gives None where it does not fit."""
    _, sign, left, right = term
    simple = _computed(sign, left, right)
    if simple is None:
        simple = _without_neutral(sign, left, right)
    if simple is None:
        simple = _vanished(sign, left, right)
    return term if simple is None else simple


def _computed(sign, left, right):
    """What an operator gives for two constants, unless that is an error."""
    a = constant(left)
    b = constant(right)
    if a is None or b is None:
        return None
    ending, value = compute(sign, a, b)
    if ending != "value":
        return None
    return ("truth", value) if isinstance(value, bool) else constant_term(value)


def _without_neutral(sign, left, right):
    """What stays of an operator of whose parts one changes nothing."""
    if sign in ("+", "-") and right == _ZERO or sign in ("*", "div") and right == _ONE:
        return left
    if sign == "+" and left == _ZERO or sign == "*" and left == _ONE:
        return right
    return ("minus", right) if sign == "-" and left == _ZERO else None


def _vanished(sign, left, right):
    """What an operator gives whatever its safe parts are."""
    if sign == "*" and (right == _ZERO and is_safe(left) or left == _ZERO and is_safe(right)):
        return _ZERO
    if sign == "mod" and right == _ONE and is_safe(left):
        return _ZERO
    return _OF_THE_SAME.get(sign) if left == right and is_safe(left) else None


def _connective(term):
    """Rule 5 for and and or: one truth leaves the other part as it is, the other truth decides."""
    _, sign, left, right = term
    idle = ("truth", sign == "and")
    deciding = ("truth", sign == "or")
    if left == idle:
        return right
    if right == idle:
        return left
    if left == deciding or right == deciding and is_safe(left):
        return deciding
    return left if left == right and is_safe(left) else term


def _if(term):
    _, condition, first, second = term
    if condition[0] == "truth":
        return first if condition[1] else second
    if condition[0] == "not":
        return ("if", condition[1], second, first)
    if first == second and is_safe(condition):
        return first
    if first == _TRUE and second == _FALSE:
        return condition
    if first == _FALSE and second == _TRUE:
        return ("not", condition)
    return term


def _call(term):
    """Rule 7 for the functions that take a pair or a list term apart."""
    _, name, arguments = term
    simple = None
    if name in ("first", "second") and arguments[0][0] == "pair":
        simple = _of_pair(name, arguments[0])
    if name in ("count", "head", "tail") and arguments[0][0] == "list":
        simple = _of_list(name, arguments[0][1])
    if name == "item" and arguments[0][0] == "list" and arguments[1][0] == "number":
        simple = _of_place(arguments[0][1], arguments[1][1])
    return term if simple is None else simple


def _of_pair(name, pair):
    _, first, second = pair
    if name == "first":
        return first if is_safe(second) else None
    return second if is_safe(first) else None


def _of_list(name, items):
    if name == "count":
        return constant_term(len(items)) if _are_safe(items) else None
    if not items:
        return None
    if name == "head":
        return items[0] if _are_safe(items[1:]) else None
    return ("list", items[1:]) if is_safe(items[0]) else None


def _of_place(items, index):
    """The item with this index, if there is one and the others may be left out."""
    if index < len(items) and _are_safe(items[:index] + items[index + 1:]):
        return items[index]
    return None


def _fold(term):
    _, _, accumulated, items, start, each = term
    if items == ("list", ()) or each == ("variable", accumulated) and is_safe(items):
        return start
    return term


# By the words of head_word. The terms that let and the calls of definitions become hang on more than one term.
_RULES = {
    "minus": _minus,
    "not": _not,
    "+": _operator,
    "-": _operator,
    "*": _operator,
    "div": _operator,
    "mod": _operator,
    "==": _operator,
    "<": _operator,
    "<=": _operator,
    "and": _connective,
    "or": _connective,
    "if": _if,
    "call": _call,
    "fold": _fold,
}
