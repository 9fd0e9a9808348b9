"""The tokens of a text, which come before its grammar."""

from keptcoin.errors import BadToken, OverLimit
from keptcoin.scripts.terms import MOST, MOST_TOKENS

_DIGITS = "0123456789"
_LETTERS = "abcdefghijklmnopqrstuvwxyz"
_MOST_LETTERS = 12
# A sign stands before those that it begins with, since a token is as long as possible.
_SIGNS = ("==", "<=", "<", "=", "+", "-", "*", "(", ")", "[", "]", ",", ";")


def tokens(text):
    """The pairs (token, place) of a text."""
    found = []
    at = 0
    while at < len(text):
        if text[at] == " ":
            at += 1
            continue
        if len(found) == MOST_TOKENS:
            raise OverLimit(at)
        token = _token_at(text, at)
        found.append((token, at))
        at += len(token)
    return found


def _token_at(text, at):
    """The token that begins at a place. Raises BadToken if none does, or if it is not good."""
    if text[at] in _DIGITS:
        token = _run_at(text, at, _DIGITS)
        good = _is_good_number(token)
    elif text[at] in _LETTERS:
        token = _run_at(text, at, _LETTERS)
        good = len(token) <= _MOST_LETTERS
    else:
        token = _sign_at(text, at)
        good = token != ""
    if not good:
        raise BadToken(at)
    return token


def _run_at(text, at, allowed):
    """The longest piece of allowed characters that begins at a place."""
    end = at
    while end < len(text) and text[end] in allowed:
        end += 1
    return text[at:end]


def _sign_at(text, at):
    """The longest sign that begins at a place, or the empty string."""
    for sign in _SIGNS:
        if text[at:at + len(sign)] == sign:
            return sign
    return ""


def _is_good_number(digits):
    """True if the digits have no leading zero and their number is not too great."""
    if digits[0] == "0":
        return digits == "0"
    # The length comes first, so that no very long number is computed.
    return len(digits) <= len(str(MOST)) and int(digits) <= MOST
