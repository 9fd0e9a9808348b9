"""The terms of scripts, and the words and limits of their notation."""

MOST = 10 ** 15
MOST_TOKENS = 200
MOST_OPEN = 16
MOST_DEPTH = 16
MOST_DEFINITIONS = 6
MOST_PARAMETERS = 4
MOST_ITEMS = 8

FACTS = ("begins", "ends", "signers", "spent", "looked", "made", "here", "datum", "redeemer", "guarding")

FUNCTIONS = {
    "first": 1,
    "second": 1,
    "count": 1,
    "head": 1,
    "tail": 1,
    "item": 2,
    "coin": 1,
    "held": 2,
    "data": 1,
    "keyed": 2,
    "homed": 1,
    "minted": 1,
    "signed": 1,
    "spends": 2,
}

RESERVED = (
    "begins", "ends", "signers", "spent", "looked", "made", "here", "datum", "redeemer", "guarding",
    "first", "second", "count", "head", "tail", "item", "coin", "held", "data", "keyed", "homed", "minted",
    "signed", "spends",
    "def", "let", "in", "if", "then", "else", "fold", "from", "do", "note", "or", "and", "not", "div", "mod",
    "true", "false", "fail",
)

# The index of the first part in a term. All items from there on are parts.
_FIRST_PART = {"minus": 1, "not": 1, "binary": 2, "pair": 1, "let": 2, "if": 1, "fold": 3, "note": 1}


def parts(term):
    """The terms that stand directly in a term, in order."""
    form = term[0]
    if form == "list":
        return term[1]
    if form == "call":
        return term[2]
    if form in _FIRST_PART:
        return term[_FIRST_PART[form]:]
    return ()


def with_parts(term, inner):
    """The term with as many other parts in the places of its own."""
    form = term[0]
    if form == "list":
        return ("list", tuple(inner))
    if form == "call":
        return ("call", term[1], tuple(inner))
    if form in _FIRST_PART:
        return term[:_FIRST_PART[form]] + tuple(inner)
    return term


def scopes(term):
    """The pairs (part, variables that the term binds in that part), in order."""
    found = [(part, ()) for part in parts(term)]
    if term[0] == "let":
        found[1] = (term[3], (term[1],))
    if term[0] == "fold":
        found[2] = (term[5], (term[1], term[2]))
    return found


def head_word(term):
    """The sign of a binary, the form of any other term. No sign is a form."""
    return term[1] if term[0] == "binary" else term[0]


def walk(term):
    """The term and all terms in it, each before its parts."""
    yield term
    for part in parts(term):
        yield from walk(part)


def size(term):
    """How many terms walking the term gives."""
    return len(list(walk(term)))


def depth(term):
    """How many terms stand in one another, at most."""
    deepest = 0
    for part in parts(term):
        deepest = max(deepest, depth(part))
    return deepest + 1


def terms_of(script):
    """The terms of the definitions, in order, and the body."""
    definitions, body = script
    return [definition[2] for definition in definitions] + [body]
