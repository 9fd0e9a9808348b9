"""The notation of plain data: integers, True, False, strings, and tuples of plain data."""

from keptcoin.errors import BadNotation

_MOST_DEPTH = 12
_MOST_DIGITS = 60
_LONGEST_STRING = 1000
# The percent sign is the one character between the space and the tilde that no string has.
_PERCENT = 37


def write(value):
    """The notation of a plain value."""
    if isinstance(value, bool):
        return "T" if value else "F"
    if isinstance(value, int):
        return str(value)
    if isinstance(value, str):
        return f"{len(value)}:{value}"
    return "(" + " ".join([write(item) for item in value]) + ")"


class Scanner:
    """A text, and the place up to which it is read."""

    def __init__(self, text):
        self.text = text
        self.at = 0

    def char(self):
        """The next character, or the empty string at the end."""
        return self.text[self.at] if self.at < len(self.text) else ""

    def skip(self, char):
        """Passes the next character if it is this one, and tells whether it is."""
        if self.char() != char:
            return False
        self.at += 1
        return True

    def require(self, good):
        """Refuses the next character, or the end, if it is not good."""
        if not good:
            raise BadNotation(self.at)


def read(text):
    """The plain value whose notation the text is."""
    scanner = Scanner(text)
    value = _value(scanner, 0)
    scanner.require(scanner.char() == "")
    return value


def _value(scanner, deep):
    """The value that begins at the place, within so many tuples."""
    char = scanner.char()
    if char == "(":
        scanner.require(deep < _MOST_DEPTH)
        return _tuple(scanner, deep + 1)
    if char == "T" or char == "F":
        scanner.at += 1
        return char == "T"
    if char == "-":
        scanner.at += 1
        scanner.require("1" <= scanner.char() <= "9")
        return -_digits(scanner)
    scanner.require(_is_digit(char))
    number = _digits(scanner)
    # A number that is too great for a length is an integer, behind which no colon can stand.
    if number <= _LONGEST_STRING and scanner.skip(":"):
        return _string(scanner, number)
    return number


def _is_digit(char):
    return "0" <= char <= "9"


def _digits(scanner):
    """The number whose digits begin at the place. A digit too many is left, and cannot stand behind a value."""
    start = scanner.at
    most = 1 if scanner.char() == "0" else _MOST_DIGITS
    while _is_digit(scanner.char()) and scanner.at < start + most:
        scanner.at += 1
    return int(scanner.text[start:scanner.at])


def _string(scanner, length):
    """The string of this length that begins at the place."""
    string = scanner.text[scanner.at:scanner.at + length]
    for char in string:
        scanner.require(" " <= char <= "~" and ord(char) != _PERCENT)
        scanner.at += 1
    scanner.require(len(string) == length)
    return string


def _tuple(scanner, deep):
    """The tuple whose bracket stands at the place, with all tuples around it so deep."""
    scanner.at += 1
    if scanner.skip(")"):
        return ()
    items = [_value(scanner, deep)]
    while scanner.skip(" "):
        items.append(_value(scanner, deep))
    scanner.require(scanner.skip(")"))
    return tuple(items)
