"""What several tests need: short names for terms, and checks of errors."""

from keptcoin.scripts.reader import read_script


def number(n):
    return ("number", n)


def minus(term):
    return ("minus", term)


def binary(sign, left, right):
    return ("binary", sign, left, right)


def variable(name):
    return ("variable", name)


def fact(word):
    return ("fact", word)


def call(name, *arguments):
    return ("call", name, tuple(arguments))


def listed(*items):
    return ("list", tuple(items))


TRUE = ("truth", True)
FALSE = ("truth", False)
FAIL = ("fail",)


def integer(n):
    """The term of an integer that may be below 0."""
    return number(n) if n >= 0 else minus(number(-n))


def nested(form, times, inner):
    """A term with so many minus or not around another one."""
    for _ in range(times):
        inner = (form, inner)
    return inner


def nested_list(times, inner):
    """A kind with so many lists around another one."""
    for _ in range(times):
        inner = ("list", inner)
    return inner


def read_term(text, free="a b x y", definitions=""):
    """The term of a text in which these variables may be free and these definitions may be called."""
    names = free.split()
    _, term = read_script(definitions + "".join([f"let {name} = 0 in " for name in names]) + text)
    for _ in names:
        term = term[3]
    return term


class Checks:
    """Mixed into test cases."""

    def fails(self, error, what, function, *arguments, **more):
        """The call raises exactly this error, with this item as what."""
        with self.assertRaises(error) as caught:
            function(*arguments, **more)
        self.assertIs(caught.exception.__class__, error)
        self.assertEqual(caught.exception.what, what)
