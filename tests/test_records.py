"""keptcoin/journal/records.py (12.4, and the lines of 12.5 and 12.6)."""

import random
import unittest

from keptcoin.chain.block import Block
from keptcoin.errors import BadNotation, BadRecord
from keptcoin.journal.notation import read, write
from keptcoin.journal.records import block_of, call_of, line_of, transaction_of
from keptcoin.tx.transaction import Transaction
from tests.helpers import Checks
from tests.ledger import COIN, key_output, script_output, some_tx

# The form of pictures once more, as a table: a pattern is a word of the ones below, or a tuple with such a word.
REFS = ("all", ("row", "integer", "integer"))
ADDRESS = ("either", ("row", ("just", "key"), "integer"), ("row", ("just", "script"), "string"))
PURPOSE = ("either", ("row", ("just", "spend"), ("row", "integer", "integer")), ("row", ("just", "mint"), "string"))
DEED = ("either", ("row", ("just", "join"), "integer"), ("row", ("just", "leave"), "integer"))
OUTPUT = ("row", ADDRESS, "rows", ("all", "integer"))
TRANSACTION = ("row", "integer", REFS, REFS, REFS, ("all", OUTPUT), "rows", "integer", "integer", "integer",
               ("all", "integer"), ("all", ("row", PURPOSE, ("all", "integer"))), ("all", DEED), REFS, "truth")
BLOCK = ("row", "integer", "integer", "integer", ("all", TRANSACTION))
ROW = ("row", ("row", "string", "integer"), "integer")


def fits(value, pattern):
    if pattern == "integer":
        return value.__class__ is int
    if pattern == "string":
        return value.__class__ is str
    if pattern == "truth":
        return value.__class__ is bool
    if pattern == "rows":
        if not fits(value, ("all", ROW)):
            return False
        assets = [asset for asset, _ in value]
        return assets == sorted(set(assets)) and 0 not in [quantity for _, quantity in value]
    word, *inner = pattern
    if word == "just":
        return value.__class__ is str and value == inner[0]
    if word == "either":
        return any([fits(value, one) for one in inner])
    if value.__class__ is not tuple:
        return False
    if word == "all":
        return all([fits(item, inner[0]) for item in value])
    return len(value) == len(inner) and all([fits(item, one) for item, one in zip(value, inner)])


def full_tx():
    """A transaction with something in each field."""
    return Transaction(
        number=3, spends=[(0, 2), (1, 0)], looks=[(4, 4)], pledge=[(0, 1), (0, 3)],
        makes=[key_output(7, 30, (("p", 1), 4), (("p", 2), 5), datum=[5, -6]), script_output("a b", 8)],
        mint=[(("p", 1), 4), (("q", 3), -2)], fee=12, begins=1, ends=9, signers=[7, 8],
        data=[(("spend", (0, 2)), [1, 2]), (("mint", "p"), [])], deeds=[("join", 4), ("leave", 5)], draws=[(5, 60), (6, 7)],
        approved=False)


def replaced(value, junk):
    """All values that come of putting each of the junk in the place of a part, or changing the form of a part."""
    found = list(junk)
    if isinstance(value, tuple):
        found += [list(value), (*value, 5), (*value, ()), value[1:], value[:-1], value + value, value[::-1], (value,)]
        for at, item in enumerate(value):
            found += [(*value[:at], other, *value[at + 1:]) for other in replaced(item, junk)]
    return found


JUNK = [None, True, False, 0, 1, -7, 10 ** 40, "", "key", "script", "mint", "x" * 500, (), [], [1], (1,), (1, 2), (None,),
        (("p", 1), 0), ((("p", 1), 0),), ((("p", 1), True),), ((("p", 1), 3),), (("key", 1), (), ()), ("key", 1), ("join", 1)]


class RecordTest(Checks, unittest.TestCase):
    def tells(self, function, picture, pattern):
        """The function accepts the value if and only if it has the form of the pattern."""
        if not fits(picture, pattern):
            self.fails(BadRecord, None, function, picture)
            return False
        found = function(picture)
        self.assertEqual(repr(found.picture()), repr(picture))
        return True

    def test_transactions(self):
        for tx in (full_tx(), some_tx(), some_tx(number=-1, fee=-10 ** 39, begins=9, ends=3, spends=[], signers=[-4] * 9)):
            found = transaction_of(tx.picture())
            self.assertIsInstance(found, Transaction)
            self.assertEqual(found.picture(), tx.picture())

    def test_no_bound_is_checked(self):
        tx = some_tx(number=10 ** 39, spends=[(-1, -1)] * 200, makes=[key_output(-3, -5, (("", 7), 10 ** 39), datum=[10 ** 30] * 9)],
                     mint=[(COIN, 4)], data=[(("mint", ""), [10 ** 20])] * 20, draws=[(-1, -1)] * 5, begins=-1, ends=-10 ** 30)
        self.assertEqual(transaction_of(tx.picture()).picture(), tx.picture())

    def test_each_part_of_a_transaction(self):
        picture = full_tx().picture()
        counts = {True: 0, False: 0}
        for other in replaced(picture, JUNK):
            counts[self.tells(transaction_of, other, TRANSACTION)] += 1
        self.assertGreater(counts[True], 300)
        self.assertGreater(counts[False], 2000)

    def test_each_part_of_a_block(self):
        block = Block(number=5, parent=2, slot=30, txs=[some_tx(), full_tx()])
        counts = {True: 0, False: 0}
        for other in replaced(block.picture(), JUNK):
            counts[self.tells(block_of, other, BLOCK)] += 1
        self.assertGreater(counts[True], 300)
        self.assertGreater(counts[False], 2000)

    def test_integers_are_no_truths(self):
        picture = some_tx().picture()
        for at in (0, 6, 7, 8):
            for other in (True, False, "1", (), None, (1,)):
                self.fails(BadRecord, None, transaction_of, (*picture[:at], other, *picture[at + 1:]))
        for other in (0, 1, None, "T", ()):
            self.fails(BadRecord, None, transaction_of, (*picture[:13], other))

    def test_rows(self):
        good = [(), ((COIN, 1),), ((COIN, 1), (("p", 1), -1)), ((("a", 9), 1), (("a", 10), 1), (("b", 0), 1)),
                ((("", 0), 1), (("", 1), 1)), ((("B", 0), 1), (("a", 0), 1))]
        bad = [((COIN, 0),), ((COIN, 1), (COIN, 1)), ((("p", 1), 1), (COIN, 1)), ((("a", 10), 1), (("a", 9), 1)),
               ((("a", 0), 1), (("B", 0), 1)), ((("p", 1), 1), (("p", 2), 0)), ((COIN, True),), ((("", True), 1),),
               ((("", 0, 0), 1),), ((COIN, 1, 1),), (("", 1),), (COIN, 1), [(COIN, 1)], ([COIN, 1],), ((["", 0], 1),),
               ((1, 1),), (((0, 0), 1),), (((None, 0), 1),), ((("p", "1"), 1),)]
        picture = full_tx().picture()
        for rows, is_good in [(rows, True) for rows in good] + [(rows, False) for rows in bad]:
            for other in ((*picture[:5], rows, *picture[6:]),
                          (*picture[:4], ((("key", 3), rows, ()),), *picture[5:])):
                self.assertIs(self.tells(transaction_of, other, TRANSACTION), is_good, rows)

    def test_other_sorts(self):
        for value in JUNK:
            self.fails(BadRecord, None, transaction_of, value)
            self.fails(BadRecord, None, block_of, value)
        self.fails(BadRecord, None, transaction_of, Block(number=1, parent=0, slot=1).picture())
        self.fails(BadRecord, None, block_of, full_tx().picture())

    def test_blocks(self):
        for block in (Block(number=5, parent=0, slot=3), Block(number=-5, parent=10 ** 39, slot=-1, txs=[some_tx(), full_tx()])):
            found = block_of(block.picture())
            self.assertIsInstance(found, Block)
            self.assertEqual(found.picture(), block.picture())

    def test_arguments_stay(self):
        for picture in (full_tx().picture(), (*full_tx().picture()[:13], [1, [2], None])):
            before = repr(picture)
            try:
                transaction_of(picture)
            except BadRecord:
                pass
            self.assertEqual(repr(picture), before)


class LineTest(Checks, unittest.TestCase):
    def setUp(self):
        self.tx = full_tx()
        self.block = Block(number=5, parent=2, slot=30, txs=[some_tx(), full_tx()])

    def test_lines(self):
        self.assertEqual(line_of("submit", self.tx.picture()), "submit " + write(self.tx.picture()))
        self.assertEqual(line_of("offer", Block(number=5, parent=0, slot=3).picture()), "offer (5 0 3 ())")
        line = line_of("offer", self.block.picture())
        self.assertEqual(read(line[6:]), self.block.picture())
        self.assertNotIn("\n", line)

    def test_calls(self):
        word, tx = call_of(line_of("submit", self.tx.picture()))
        self.assertEqual((word, tx.picture()), ("submit", self.tx.picture()))
        word, block = call_of(line_of("offer", self.block.picture()))
        self.assertEqual((word, block.picture()), ("offer", self.block.picture()))
        self.assertIsInstance(call_of("offer (5 0 3 ())"), tuple)
        self.assertIsInstance(block, Block)
        self.assertIsInstance(tx, Transaction)

    def test_other_words(self):
        rest = write(self.tx.picture())
        for line in ("", " ", "submit", "offer", "submit" + rest, "offer(5 0 3 ())", "Submit " + rest, "submits " + rest,
                     " submit " + rest, "take " + rest, rest, "offe (5 0 3 ())", "submit\n" + rest, "submitoffer " + rest,
                     " offer (5 0 3 ())", "(5 0 3 ())", "offer\t(5 0 3 ())", "x offer (5 0 3 ())"):
            self.fails(BadRecord, None, call_of, line)

    def test_places_count_in_the_rest(self):
        for line, place in [("submit ", 0), ("offer ", 0), ("submit  ()", 0), ("offer  (5 0 3 ())", 0), ("offer (5 0 3 ()) ", 10),
                            ("offer (5 0 3 ()", 9), ("submit (1  2)", 3), ("offer 012", 1), ("submit -0", 1),
                            ("submit 4:abc", 5), ("submit submit ()", 0), ("offer T ", 1), ("offer (5 0  3 ())", 5)]:
            self.fails(BadNotation, place, call_of, line)

    def test_notations_that_are_no_pictures(self):
        for line in ("submit ()", "submit 5", "submit T", "offer ()", "offer (5 0 3)", "offer (5 0 T ())", "offer (5 0 3 (1))",
                     "submit 3:abc", "submit " + write(self.block.picture()), "offer " + write(self.tx.picture())):
            self.fails(BadRecord, None, call_of, line)

    def test_damaged_lines(self):
        source = random.Random(4)
        for word, item, pattern in [("submit", self.tx, TRANSACTION), ("offer", self.block, BLOCK)]:
            line = line_of(word, item.picture())
            for _ in range(400):
                at, char = source.randrange(len(line)), source.choice("( )01-:TF2a\n")
                damaged = line[:at] + char + line[at + source.choice([0, 1]):]
                try:
                    found = call_of(damaged)
                except (BadNotation, BadRecord):
                    continue
                self.assertEqual(line_of(found[0], found[1].picture()), damaged)
                self.assertTrue(fits(found[1].picture(), pattern))


if __name__ == "__main__":
    unittest.main()
