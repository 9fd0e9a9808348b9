"""The grammar of 2.5 written out once more, and a slow search for the first token that cannot stand."""

from keptcoin.scripts.terms import FACTS, FUNCTIONS, RESERVED

# A word with a capital letter is a rule or a sort of tokens, any other one a token.
RULES = {
    "Script": ["Expression", "Definition Script"],
    "Definition": ["def Name ( ) = Expression ;", "def Name ( Names ) = Expression ;"],
    "Names": ["Name", "Names , Name"],
    "Expression": [
        "let Name = Expression in Expression", "if Expression then Expression else Expression",
        "fold Name Name in Expression from Expression do Expression", "note Expression then Expression",
        "Disjunction"],
    "Disjunction": ["Conjunction", "Disjunction or Conjunction"],
    "Conjunction": ["Comparison", "Conjunction and Comparison"],
    "Comparison": ["Sum", "Sum == Sum", "Sum < Sum", "Sum <= Sum"],
    "Sum": ["Product", "Sum + Product", "Sum - Product"],
    "Product": ["Unary", "Product * Unary", "Product div Unary", "Product mod Unary"],
    "Unary": ["- Unary", "not Unary", "Simple"],
    "Simple": ["Number", "true", "false", "fail", "Fact", "Name", "Call", "List", "( Expression )",
               "( Expression , Expression )"],
    "Call": ["Called ( )", "Called ( Expressions )"],
    "Called": ["Name", "Function"],
    "Expressions": ["Expression", "Expressions , Expression"],
    "List": ["[ ]", "[ Expressions ]"],
}


def sort_of(token):
    """The sort of a token, or the token itself."""
    if token.isdigit():
        return "Number"
    if token in FACTS:
        return "Fact"
    if token in FUNCTIONS:
        return "Function"
    if token.isalpha() and token not in RESERVED:
        return "Name"
    return token


def close(columns):
    """Adds to the last column all that can stand there (Earley's predictor and completer)."""
    last = len(columns) - 1
    waiting = list(columns[last])
    while waiting:
        rule, right, at, start = waiting.pop()
        if at == len(right):
            new = [(r, s, a + 1, o) for r, s, a, o in columns[start] if a < len(s) and s[a] == rule]
        elif right[at] in RULES:
            new = [(right[at], tuple(text.split()), 0, last) for text in RULES[right[at]]]
        else:
            new = []
        for item in new:
            if item not in columns[last]:
                columns[last].add(item)
                waiting.append(item)


def first_fault(words):
    """The index of the first token that cannot stand, the number of tokens if the text ends too early, or None."""
    columns = [{("Start", ("Script",), 0, 0)}]
    close(columns)
    for index, word in enumerate(words):
        sort = sort_of(word)
        moved = {(r, s, a + 1, o) for r, s, a, o in columns[-1] if a < len(s) and s[a] == sort}
        if not moved:
            return index
        columns.append(moved)
        close(columns)
    if ("Start", ("Script",), 1, 0) in columns[-1]:
        return None
    return len(words)
