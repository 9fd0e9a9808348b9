"""The printing of scripts, with no more brackets than reading needs."""

from keptcoin.scripts.terms import head_word, parts

# How close a term holds together. Terms that are not named here are simple.
_LEVELS = {
    "let": 0, "if": 0, "fold": 0, "note": 0,
    "or": 1,
    "and": 2,
    "==": 3, "<": 3, "<=": 3,
    "+": 4, "-": 4,
    "*": 5, "div": 5, "mod": 5,
    "minus": 6, "not": 6,
}
_SIMPLE = 7

# The least levels of the operands. All other places take any term.
_OPERANDS = {
    "or": (1, 2),
    "and": (2, 3),
    "==": (4, 4), "<": (4, 4), "<=": (4, 4),
    "+": (4, 5), "-": (4, 5),
    "*": (5, 6), "div": (5, 6), "mod": (5, 6),
    "minus": (6,), "not": (6,),
}


def print_script(script):
    """The text of a script."""
    definitions, body = script
    return "".join([_print_definition(definition) for definition in definitions]) + print_term(body)


def _print_definition(definition):
    name, parameters, term = definition
    return "def " + name + "(" + ", ".join(parameters) + ") = " + print_term(term) + "; "


def print_term(term):
    """The text of a term."""
    form = term[0]
    if form in ("number", "variable", "fact"):
        return str(term[1])
    if form == "truth":
        return "true" if term[1] else "false"
    if form == "fail":
        return "fail"
    return _print_with(term, _print_parts(term))


def _print_parts(term):
    """The texts of the parts, in brackets where their level is too low for their place."""
    texts = []
    least_levels = _OPERANDS.get(head_word(term), (0,) * len(parts(term)))
    for part, least in zip(parts(term), least_levels):
        text = print_term(part)
        level = _LEVELS.get(head_word(part), _SIMPLE)
        texts.append("(" + text + ")" if level < least else text)
    return texts


def _print_with(term, texts):
    """The text of a term whose form has parts, with the texts of these parts."""
    form = term[0]
    if form == "minus":
        return "-" + texts[0]
    if form == "not":
        return "not " + texts[0]
    if form == "binary":
        return texts[0] + " " + term[1] + " " + texts[1]
    if form == "pair":
        return "(" + texts[0] + ", " + texts[1] + ")"
    if form == "list":
        return "[" + ", ".join(texts) + "]"
    if form == "call":
        return term[1] + "(" + ", ".join(texts) + ")"
    if form == "let":
        return f"let {term[1]} = {texts[0]} in {texts[1]}"
    if form == "if":
        return f"if {texts[0]} then {texts[1]} else {texts[2]}"
    if form == "fold":
        return f"fold {term[1]} {term[2]} in {texts[0]} from {texts[1]} do {texts[2]}"
    return f"note {texts[0]} then {texts[1]}"
