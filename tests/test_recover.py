"""keptcoin/journal/recover.py (12.5 to 12.9)."""

import random
import unittest

from keptcoin.chain.block import Block
from keptcoin.errors import BadLine, KeptError, RecordError
from keptcoin.journal.recover import mended, recover, replay, whole_lines
from keptcoin.journal.records import call_of, line_of
from keptcoin.node.node import Node
from keptcoin.tx.params import Params
from tests.helpers import Checks
from tests.ledger import paying
from tests.play import GRANTS, RESERVE, Player

PARAMS = Params()


def new_node(params=PARAMS):
    return Node(params=params, grants=GRANTS, reserve=RESERVE)


def recovered(text, params=PARAMS):
    return recover(text, params=params, grants=GRANTS, reserve=RESERVE)


def called(calls, params=PARAMS):
    """A new node behind these calls."""
    node = new_node(params)
    for word, item in calls:
        try:
            node.submit(item) if word == "submit" else node.offer(item)
        except KeptError:
            pass
    return node


TXS = [paying(at + 1, (0, at), at, 3000) for at in range(5)]
# Some of these calls are refused: a number that waits already, an unknown parent, a bad block.
CALLS = [
    ("submit", TXS[0]), ("submit", TXS[0]), ("submit", TXS[1]), ("offer", Block(number=1, parent=0, slot=1, txs=TXS[:1])),
    ("offer", Block(number=5, parent=7, slot=1)), ("submit", TXS[2]), ("offer", Block(number=2, parent=0, slot=2, txs=TXS[1:2])),
    ("offer", Block(number=3, parent=2, slot=3, txs=TXS[1:2])), ("offer", Block(number=4, parent=2, slot=4)),
    ("submit", TXS[3]), ("submit", paying(6, (9, 9), 0, 50)),
]
LINES = [line_of(word, item.picture()) for word, item in CALLS]
JOURNAL = "".join([line + "\n" for line in LINES])
# Lines that are not good, each for another reason.
DAMAGED = [
    "", " ", "submit", "offer", "submit ", "offer ", "submit  (1 0 1 ())", "Offer (1 0 1 ())", "offers (1 0 1 ())",
    " offer (1 0 1 ())", "offer (1 0 1 ()) ", "offer (1 0 1 ()", "offer (1 0 1)", "offer (1 0 T ())", "submit (1 0 1 ())",
    "offer " + LINES[0][7:], LINES[0][:-1], LINES[0] + ")", LINES[0] + "\r", "offer (1 0 01 ())", "%", "tell (1 0 1 ())",
    "offer\t(1 0 1 ())",
]


class LinesTest(unittest.TestCase):
    def test_whole_lines(self):
        for text, lines in [
            ("", []), ("a", []), ("\n", [""]), ("\n\n", ["", ""]), ("a\n", ["a"]), ("a\nb", ["a"]), ("a\nb\n", ["a", "b"]),
            ("\na", [""]), ("one\n\ntwo\nthr", ["one", "", "two"]), (" a \n b", [" a "]), ("a\n\n\nb\n", ["a", "", "", "b"]),
            ("a\rb\n", ["a\rb"]), ("a\x0bb\x0c\n", ["a\x0bb\x0c"]),
        ]:
            found = whole_lines(text)
            self.assertIsInstance(found, list)
            self.assertEqual(found, lines)

    def test_journals(self):
        self.assertEqual(whole_lines(JOURNAL), LINES)
        self.assertEqual(whole_lines(JOURNAL[:-1]), LINES[:-1])
        self.assertEqual(whole_lines(JOURNAL + "offer (1"), LINES)

    def test_long_texts(self):
        lines = ["7" * 5000, "", *["x"] * 3000]
        self.assertEqual(whole_lines("\n".join(lines) + "\n"), lines)


class MendedTest(unittest.TestCase):
    def test_good_texts_stay(self):
        for count in range(len(LINES) + 1):
            text = "".join([line + "\n" for line in LINES[:count]])
            self.assertEqual(mended(text), text)

    def test_what_is_cut_off(self):
        for end in range(len(JOURNAL) + 1):
            text = JOURNAL[:end]
            self.assertEqual(mended(text), text[:text.rfind("\n") + 1])

    def test_damaged_lines(self):
        for line in DAMAGED:
            for at in range(len(LINES) + 1):
                text = "".join([kept + "\n" for kept in [*LINES[:at], line, *LINES[at:]]])
                found = mended(text)
                self.assertEqual(found, "".join([kept + "\n" for kept in LINES[:at]]))
                recovered(found)
                self.assertEqual(mended(found), found)

    def test_damaged_end_without_a_newline(self):
        for line in DAMAGED:
            self.assertEqual(mended(JOURNAL + line), JOURNAL)

    def test_two_damaged_lines(self):
        text = LINES[0] + "\n" + "x\n" + LINES[1] + "\n" + "y\n"
        self.assertEqual(mended(text), LINES[0] + "\n")


class ReplayTest(Checks, unittest.TestCase):
    def test_calls_are_made_in_order(self):
        node = new_node()
        self.assertIsNone(replay(node, JOURNAL))
        self.assertEqual(node.picture(), called(CALLS).picture())
        self.assertEqual(node.journal, JOURNAL)
        self.assertEqual(node.chain.path(), [0, 2, 4])
        self.assertEqual([tx.number for tx in node.waiting()], [1, 3, 4])

    def test_used_node(self):
        for count in range(len(CALLS)):
            node = called(CALLS[:count])
            replay(node, "".join([line + "\n" for line in LINES[count:]]) + "cut o")
            self.assertEqual((node.picture(), node.journal), (called(CALLS).picture(), JOURNAL))
        # All calls once more, which mostly are refused now.
        node = called(CALLS)
        replay(node, JOURNAL)
        self.assertEqual((node.picture(), node.journal), (called(CALLS * 2).picture(), JOURNAL * 2))

    def test_texts_without_calls(self):
        for text in ("", "offer", "x", LINES[0]):
            node = called(CALLS)
            before = node.picture()
            self.assertIsNone(replay(node, text))
            self.assertEqual((node.picture(), node.journal), (before, JOURNAL))

    def test_damaged_lines(self):
        for line in DAMAGED:
            for at in range(len(LINES) + 1):
                text = "".join([kept + "\n" for kept in [*LINES[:at], line, *LINES[at:]]])
                node = called(CALLS[:3])
                before = (node.picture(), node.journal, node.state.mark())
                self.fails(BadLine, at, replay, node, text)
                self.assertEqual((node.picture(), node.journal, node.state.mark()), before)
                self.fails(BadLine, at, recover, text, params=PARAMS, grants=GRANTS, reserve=RESERVE)

    def test_first_damaged_line_counts(self):
        for text, index in [("\n", 0), ("\n\n", 0), (JOURNAL + "\nx\n", 11), (JOURNAL + "x\n" + JOURNAL + "y\n", 11)]:
            self.fails(BadLine, index, replay, new_node(), text)
            self.fails(BadLine, index, recover, text, params=PARAMS, grants=GRANTS, reserve=RESERVE)

    def test_damaged_end_without_a_newline(self):
        for line in DAMAGED:
            node = new_node()
            replay(node, JOURNAL + line)
            self.assertEqual(node.journal, JOURNAL)

    def test_each_damaged_line_is_refused_when_it_is_read(self):
        for line in DAMAGED:
            with self.assertRaises(RecordError):
                call_of(line)


class RecoverTest(Checks, unittest.TestCase):
    def test_every_beginning_of_a_journal(self):
        behind = [called(CALLS[:count]) for count in range(len(CALLS) + 1)]
        for end in range(len(JOURNAL) + 1):
            node = recovered(JOURNAL[:end])
            count = JOURNAL[:end].count("\n")
            self.assertIsInstance(node, Node)
            self.assertEqual(node.picture(), behind[count].picture())
            self.assertEqual(node.journal, JOURNAL[:end][:JOURNAL[:end].rfind("\n") + 1])

    def test_parameters_count(self):
        params = Params(epoch_length=2, deposit=7, depth=1)
        for count in range(len(CALLS) + 1):
            node = called(CALLS[:count], params)
            self.assertEqual(recovered(node.journal, params).picture(), node.picture())
        node = recover("", params=params, grants=[(1, 5)], reserve=9)
        self.assertEqual(node.picture(), Node(params=params, grants=[(1, 5)], reserve=9).picture())

    def test_recovered_node_goes_on(self):
        for count in range(len(CALLS) + 1):
            node = recovered("".join([line + "\n" for line in LINES[:count]]))
            replay(node, "".join([line + "\n" for line in LINES[count:]]))
            self.assertEqual((node.picture(), node.journal), (called(CALLS).picture(), JOURNAL))

    def test_two_recovered_nodes(self):
        first, second = recovered(JOURNAL), recovered(JOURNAL)
        before = second.picture()
        first.submit(TXS[4])
        self.assertEqual((second.picture(), second.journal), (before, JOURNAL))

    def test_made_up_journals(self):
        source = random.Random(8)
        for _ in range(4):
            params = Params(depth=source.choice([1, 4]), epoch_length=source.choice([3, 10]))
            node = new_node(params)
            player = Player(source, node, params)
            pictures, lengths = [node.picture()], [0]
            for _ in range(25):
                player.turn()
                # Several calls may be one turn, so not all counts of lines have a picture.
                pictures.append(node.picture())
                lengths.append(len(node.journal))
            for picture, length in zip(pictures, lengths):
                cut = length + source.choice([0, 1, 9])
                text = node.journal[:cut if "\n" not in node.journal[length:cut] else length]
                again = recovered(text, params)
                self.assertEqual((again.picture(), again.journal), (picture, node.journal[:length]))
                self.assertEqual(mended(text), node.journal[:length])

    def test_long_lines(self):
        block = Block(number=7, parent=0, slot=1, txs=[paying(at + 1, (0, at % 5), at % 5, 3000) for at in range(200)])
        text = line_of("offer", block.picture()) + "\n"
        self.assertGreater(len(text), 10000)
        node = recovered(JOURNAL + text * 3)
        self.assertEqual((node.picture(), node.journal), (called(CALLS).picture(), JOURNAL + text * 3))


if __name__ == "__main__":
    unittest.main()
