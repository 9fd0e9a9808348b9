"""The kinds of the facts, the functions and the forms of terms.

A signature is a pair: the tuple of the kinds of the parts, and the kind of the whole. Its unknowns stand for
kinds that are chosen anew wherever it is used.
"""

FACT_KINDS = {
    "begins": ("int",),
    "ends": ("int",),
    "signers": ("list", ("int",)),
    "spent": ("list", ("output",)),
    "looked": ("list", ("output",)),
    "made": ("list", ("output",)),
    "here": ("output",),
    "datum": ("list", ("int",)),
    "redeemer": ("list", ("int",)),
    "guarding": ("bool",),
}

FUNCTION_SIGNATURES = {
    "first": ((("pair", ("any", 0), ("any", 1)),), ("any", 0)),
    "second": ((("pair", ("any", 0), ("any", 1)),), ("any", 1)),
    "count": ((("list", ("any", 0)),), ("int",)),
    "head": ((("list", ("any", 0)),), ("any", 0)),
    "tail": ((("list", ("any", 0)),), ("list", ("any", 0))),
    "item": ((("list", ("any", 0)), ("int",)), ("any", 0)),
    "coin": ((("output",),), ("int",)),
    "held": ((("output",), ("int",)), ("int",)),
    "data": ((("output",),), ("list", ("int",))),
    "keyed": ((("output",), ("int",)), ("bool",)),
    "homed": ((("output",),), ("bool",)),
    "minted": ((("int",),), ("int",)),
    "signed": ((("int",),), ("bool",)),
    "spends": ((("int",), ("int",)), ("bool",)),
}

# By the words of head_word. Variables, facts, lists and calls are not here: their signatures hang on more.
FORM_SIGNATURES = {
    "number": ((), ("int",)),
    "truth": ((), ("bool",)),
    "fail": ((), ("any", 0)),
    "minus": ((("int",),), ("int",)),
    "not": ((("bool",),), ("bool",)),
    "+": ((("int",), ("int",)), ("int",)),
    "-": ((("int",), ("int",)), ("int",)),
    "*": ((("int",), ("int",)), ("int",)),
    "div": ((("int",), ("int",)), ("int",)),
    "mod": ((("int",), ("int",)), ("int",)),
    "==": ((("int",), ("int",)), ("bool",)),
    "<": ((("int",), ("int",)), ("bool",)),
    "<=": ((("int",), ("int",)), ("bool",)),
    "and": ((("bool",), ("bool",)), ("bool",)),
    "or": ((("bool",), ("bool",)), ("bool",)),
    "pair": ((("any", 0), ("any", 1)), ("pair", ("any", 0), ("any", 1))),
    "let": ((("any", 0), ("any", 1)), ("any", 1)),
    "if": ((("bool",), ("any", 0), ("any", 0)), ("any", 0)),
    "fold": ((("list", ("any", 0)), ("any", 1), ("any", 1)), ("any", 1)),
    "note": ((("int",), ("any", 0)), ("any", 0)),
}
