"""Journals: their lines, and nodes that are recovered from them."""

from keptcoin.errors import BadLine, KeptError, RecordError
from keptcoin.journal.records import call_of
from keptcoin.node.node import Node


def whole_lines(text):
    """The lines that a newline ends, without it. What stands behind the last newline may be cut off."""
    return text.split("\n")[:-1]


def mended(text):
    """The text up to the first whole line that is not good."""
    kept = []
    for line in whole_lines(text):
        if not _is_good(line):
            break
        kept.append(line + "\n")
    return "".join(kept)


def _is_good(line):
    try:
        call_of(line)
    except RecordError:
        return False
    return True


def replay(node, text):
    """Makes the calls of the whole lines on the node, if all lines are good."""
    for word, item in _calls(whole_lines(text)):
        try:
            _call(node, word, item)
        except KeptError:
            # The node refused this call when the journal was written, too.
            continue


def _calls(lines):
    """The pairs of a word and a transaction or block. Raises BadLine for the first line that is not good."""
    calls = []
    for index, line in enumerate(lines):
        try:
            calls.append(call_of(line))
        except RecordError:
            raise BadLine(index)
    return calls


def _call(node, word, item):
    if word == "submit":
        node.submit(item)
    else:
        node.offer(item)


def recover(text, *, params, grants, reserve):
    """A new node on which the text is replayed."""
    node = Node(params=params, grants=grants, reserve=reserve)
    replay(node, text)
    return node
