"""What operators, functions and fact words give: pairs of an ending and a value."""

from keptcoin.scripts.terms import MOST


def compute(sign, a, b):
    """What an operator gives for two integers."""
    if sign == "==":
        return ("value", a == b)
    if sign == "<":
        return ("value", a < b)
    if sign == "<=":
        return ("value", a <= b)
    if sign == "+":
        return _number(a + b)
    if sign == "-":
        return _number(a - b)
    if sign == "*":
        return _number(a * b)
    if b == 0:
        return ("division", None)
    return _number(a // b if sign == "div" else a % b)


def _number(number):
    """The number as a result, which may be out of range."""
    if -MOST <= number <= MOST:
        return ("value", number)
    return ("range", None)


def call_function(name, values, facts):
    """What a function gives for a list of values."""
    function = _FUNCTIONS[name]
    return function(values, facts)


def _first(values, facts):
    return ("value", values[0][1])


def _second(values, facts):
    return ("value", values[0][2])


def _count(values, facts):
    return ("value", len(values[0][1]))


def _head(values, facts):
    return _item([values[0], 0], facts)


def _tail(values, facts):
    items = values[0][1]
    return ("value", ("list", items[1:])) if items else ("missing", None)


def _item(values, facts):
    items = values[0][1]
    index = values[1]
    return ("value", items[index]) if 0 <= index < len(items) else ("missing", None)


def _coin(values, facts):
    return _number(_bundle(values[0]).coin)


def _held(values, facts):
    return _number(_bundle(values[0]).of((facts.own, values[1])))


def _data(values, facts):
    return ("value", ("list", values[0][1][3]))


def _keyed(values, facts):
    return ("value", _address(values[0]) == ("key", values[1]))


def _homed(values, facts):
    return ("value", _address(values[0]) == ("script", facts.own))


def _minted(values, facts):
    return _number(facts.mint.of((facts.own, values[0])))


def _signed(values, facts):
    return ("value", values[0] in facts.signers)


def _spends(values, facts):
    wanted = (values[0], values[1])
    return ("value", wanted in [reference for reference, address, bundle, datum in facts.spent])


def _bundle(output):
    return output[1][2]


def _address(output):
    return output[1][1]


_FUNCTIONS = {
    "first": _first,
    "second": _second,
    "count": _count,
    "head": _head,
    "tail": _tail,
    "item": _item,
    "coin": _coin,
    "held": _held,
    "data": _data,
    "keyed": _keyed,
    "homed": _homed,
    "minted": _minted,
    "signed": _signed,
    "spends": _spends,
}


def fact_value(word, facts):
    """What a fact word is."""
    if word == "begins":
        return ("value", facts.begins)
    if word == "ends":
        return ("value", facts.ends)
    if word == "guarding":
        return ("value", facts.here is not None)
    if word == "here":
        return ("nowhere", None) if facts.here is None else ("value", ("output", facts.here))
    if word == "signers":
        return ("value", ("list", facts.signers))
    if word == "datum":
        return ("value", ("list", facts.datum))
    if word == "redeemer":
        return ("value", ("list", facts.redeemer))
    if word == "spent":
        return _outputs(facts.spent)
    if word == "looked":
        return _outputs(facts.looked)
    return _outputs(facts.made)


def _outputs(rows):
    """The list of the outputs of rows."""
    return ("value", ("list", tuple([("output", row) for row in rows])))
