"""The reading of scripts: tokens, then the grammar, then the uses, then the depth."""

from keptcoin.errors import BadSyntax, DeepTerm, OverLimit
from keptcoin.scripts.terms import (
    FACTS, FUNCTIONS, MOST_DEFINITIONS, MOST_DEPTH, MOST_ITEMS, MOST_OPEN, MOST_PARAMETERS, RESERVED, depth, terms_of)
from keptcoin.scripts.tokens import tokens
from keptcoin.scripts.uses import check_uses

# The signs of the binary operators, level by level; those of a later level bind closer.
_LEVELS = (("or",), ("and",), ("==", "<", "<="), ("+", "-"), ("*", "div", "mod"))
_COMPARISONS = 2


class Reader:
    """The tokens of a text, the one that is read next, and how many constructs are under way."""

    def __init__(self, text):
        self.pieces = tokens(text)
        self.length = len(text)
        self.at = 0
        self.opened = 0

    def word(self):
        """The next token, or the empty string at the end."""
        return self.pieces[self.at][0] if self.at < len(self.pieces) else ""

    def place(self):
        """The place of the next token, or the length of the text at the end."""
        return self.pieces[self.at][1] if self.at < len(self.pieces) else self.length

    def take(self):
        """The next token, which is passed."""
        word = self.word()
        self.at += 1
        return word

    def expect(self, word):
        """Passes the next token, which has to be this one."""
        if self.word() != word:
            raise BadSyntax(self.place())
        self.at += 1

    def name(self):
        """The name that has to stand next, which is passed."""
        if not _is_name(self.word()):
            raise BadSyntax(self.place())
        return self.take()

    def begin(self, word):
        """Passes the next token, which has to be this one and opens a construct."""
        if self.word() == word and self.opened == MOST_OPEN:
            raise OverLimit(self.place())
        self.expect(word)
        self.opened += 1

    def finish(self):
        """Closes the construct that was opened last."""
        self.opened -= 1


def read_script(text):
    """The script of a text."""
    reader = Reader(text)
    script = _script(reader)
    check_uses(script)
    deepest = max([depth(term) for term in terms_of(script)])
    if deepest > MOST_DEPTH:
        raise DeepTerm(deepest)
    return script


def _is_name(word):
    """True if the token may be a variable or the name of a definition."""
    return word.isalpha() and word not in RESERVED


def _script(reader):
    definitions = []
    while reader.word() == "def":
        if len(definitions) == MOST_DEFINITIONS:
            raise OverLimit(reader.place())
        definitions.append(_definition(reader))
    body = _expression(reader)
    # No token is the empty string, so only the end of the text can stand here.
    reader.expect("")
    return (tuple(definitions), body)


def _definition(reader):
    reader.expect("def")
    name = reader.name()
    reader.expect("(")
    parameters = []
    if reader.word() != ")":
        parameters.append(reader.name())
        while reader.word() == ",":
            _pass_comma(reader, len(parameters), MOST_PARAMETERS)
            parameters.append(reader.name())
    reader.expect(")")
    reader.expect("=")
    term = _expression(reader)
    reader.expect(";")
    return (name, tuple(parameters), term)


def _pass_comma(reader, many, most):
    """Passes the comma behind so many items, of which there may be so many at most."""
    if many == most:
        raise OverLimit(reader.place())
    reader.expect(",")


def _expression(reader):
    word = reader.word()
    if word == "let":
        return _let(reader)
    if word == "if":
        return _if(reader)
    if word == "fold":
        return _fold(reader)
    if word == "note":
        return _note(reader)
    return _operators(reader, 0)


def _let(reader):
    reader.begin("let")
    name = reader.name()
    reader.expect("=")
    first = _expression(reader)
    reader.expect("in")
    second = _expression(reader)
    reader.finish()
    return ("let", name, first, second)


def _if(reader):
    reader.begin("if")
    condition = _expression(reader)
    reader.expect("then")
    first = _expression(reader)
    reader.expect("else")
    second = _expression(reader)
    reader.finish()
    return ("if", condition, first, second)


def _fold(reader):
    reader.begin("fold")
    item = reader.name()
    accumulated = reader.name()
    reader.expect("in")
    items = _expression(reader)
    reader.expect("from")
    start = _expression(reader)
    reader.expect("do")
    step = _expression(reader)
    reader.finish()
    return ("fold", item, accumulated, items, start, step)


def _note(reader):
    reader.begin("note")
    noted = _expression(reader)
    reader.expect("then")
    term = _expression(reader)
    reader.finish()
    return ("note", noted, term)


def _operators(reader, level):
    """A term with operators of this level and of those that bind closer."""
    if level == len(_LEVELS):
        return _unary(reader)
    term = _operators(reader, level + 1)
    while reader.word() in _LEVELS[level]:
        sign = reader.take()
        term = ("binary", sign, term, _operators(reader, level + 1))
        if level == _COMPARISONS:
            # A comparison has one sign at most: another one cannot stand behind it.
            break
    return term


def _unary(reader):
    word = reader.word()
    if word == "-" or word == "not":
        reader.begin(word)
        operand = _unary(reader)
        reader.finish()
        return ("minus" if word == "-" else "not", operand)
    return _simple(reader)


def _simple(reader):
    word = reader.word()
    if word == "(":
        return _bracket(reader)
    if word == "[":
        return ("list", _sequence(reader, "[", "]", MOST_ITEMS))
    place = reader.place()
    reader.take()
    if word.isdigit():
        return ("number", int(word))
    if word == "true" or word == "false":
        return ("truth", word == "true")
    if word == "fail":
        return ("fail",)
    if word in FACTS:
        return ("fact", word)
    if word in FUNCTIONS or (_is_name(word) and reader.word() == "("):
        return ("call", word, _sequence(reader, "(", ")", MOST_PARAMETERS))
    if _is_name(word):
        return ("variable", word)
    raise BadSyntax(place)


def _bracket(reader):
    """A term in round brackets, or a pair."""
    reader.begin("(")
    term = _expression(reader)
    if reader.word() == ",":
        reader.take()
        term = ("pair", term, _expression(reader))
    reader.expect(")")
    reader.finish()
    return term


def _sequence(reader, left, right, most):
    """The terms between two brackets, with commas between them."""
    reader.begin(left)
    terms = []
    if reader.word() != right:
        terms.append(_expression(reader))
        while reader.word() == ",":
            _pass_comma(reader, len(terms), most)
            terms.append(_expression(reader))
    reader.expect(right)
    reader.finish()
    return tuple(terms)
