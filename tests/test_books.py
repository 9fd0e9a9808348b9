"""keptcoin/state/books.py (8.4)."""

import random
import unittest

from keptcoin.amounts.bundle import Bundle
from keptcoin.amounts.sums import total
from keptcoin.state.books import Books
from tests.ledger import key_output, script_output

COIN = ("", 0)


class BooksTest(unittest.TestCase):
    def test_no_output(self):
        books = Books()
        for address in (("key", 1), ("script", "true"), ("script", "")):
            self.assertEqual(books.refs_of(address), [])
            self.assertEqual(books.balance(address), Bundle())
        self.assertEqual(books.supply(), Bundle())
        self.assertIsInstance(books.balance(("key", 1)), Bundle)
        self.assertIsInstance(books.supply(), Bundle)

    def test_adding(self):
        books = Books()
        self.assertIsNone(books.added((3, 1), key_output(7, 10, (("p", 1), 2))))
        books.added((0, 9), key_output(7, 5))
        books.added((0, 2), key_output(8, 1))
        books.added((3, 0), script_output("true", 4))
        self.assertEqual(books.refs_of(("key", 7)), [(0, 9), (3, 1)])
        self.assertEqual(books.balance(("key", 7)).rows, ((COIN, 15), (("p", 1), 2)))
        self.assertEqual(books.refs_of(("key", 8)), [(0, 2)])
        self.assertEqual(books.refs_of(("script", "true")), [(3, 0)])
        self.assertEqual(books.balance(("script", "true")).rows, ((COIN, 4),))
        self.assertEqual(books.supply().rows, ((COIN, 20), (("p", 1), 2)))

    def test_references_ascend(self):
        books = Books()
        refs = [(10, 0), (2, 11), (2, 3), (0, 0), (9, 9), (100, 1)]
        for ref in refs:
            books.added(ref, key_output(1, 1))
        self.assertEqual(books.refs_of(("key", 1)), sorted(refs))

    def test_addresses_of_like_looks(self):
        books = Books()
        books.added((1, 0), key_output(7, 1))
        books.added((1, 1), script_output("7", 2))
        books.added((1, 2), script_output("07", 4))
        books.added((1, 3), script_output("7 ", 8))
        for address, coin in [(("key", 7), 1), (("script", "7"), 2), (("script", "07"), 4), (("script", "7 "), 8)]:
            self.assertEqual(books.balance(address).coin, coin)
            self.assertEqual(len(books.refs_of(address)), 1)
        self.assertEqual(books.refs_of(("key", 0)), [])

    def test_removing(self):
        books = Books()
        books.added((1, 0), key_output(7, 5, (("p", 1), 2)))
        books.added((1, 1), key_output(7, 6))
        self.assertIsNone(books.removed((1, 0), key_output(7, 5, (("p", 1), 2))))
        self.assertEqual(books.refs_of(("key", 7)), [(1, 1)])
        self.assertEqual(books.balance(("key", 7)).rows, ((COIN, 6),))
        books.removed((1, 1), key_output(7, 6))
        self.assertEqual(books.refs_of(("key", 7)), [])
        self.assertEqual(books.balance(("key", 7)), Bundle())
        self.assertEqual(books.supply(), Bundle())
        books.added((1, 1), key_output(7, 3))
        self.assertEqual(books.balance(("key", 7)).coin, 3)

    def test_other_address_at_a_reference_that_was_removed(self):
        books = Books()
        books.added((1, 0), key_output(7, 5))
        books.removed((1, 0), key_output(7, 5))
        books.added((1, 0), key_output(8, 9))
        self.assertEqual((books.refs_of(("key", 7)), books.refs_of(("key", 8))), ([], [(1, 0)]))
        self.assertEqual(books.supply().coin, 9)

    def test_negative_and_empty_rows(self):
        books = Books()
        books.added((1, 0), key_output(7, -5, (("p", 1), 2)))
        books.added((1, 1), key_output(7, 5, (("p", 1), -2)))
        books.added((1, 2), key_output(7, 0))
        self.assertEqual(books.balance(("key", 7)), Bundle())
        self.assertEqual(len(books.refs_of(("key", 7))), 3)

    def test_answers_may_be_changed(self):
        books = Books()
        books.added((1, 0), key_output(7, 5))
        books.refs_of(("key", 7)).clear()
        books.refs_of(("key", 8)).append((3, 3))
        self.assertEqual(books.refs_of(("key", 7)), [(1, 0)])
        self.assertEqual(books.refs_of(("key", 8)), [])

    def test_books_beside_each_other(self):
        one, other = Books(), Books()
        one.added((1, 0), key_output(7, 5))
        self.assertEqual(other.refs_of(("key", 7)), [])
        self.assertEqual(other.supply(), Bundle())

    def test_against_a_plain_list(self):
        source = random.Random(21)
        books, held = Books(), {}
        for _ in range(600):
            ref = (source.randint(0, 9), source.randint(0, 3))
            if ref in held:
                books.removed(ref, held.pop(ref))
            else:
                row = (("p", source.randint(0, 2)), source.randint(-3, 3))
                held[ref] = source.choice([key_output(source.randint(0, 2), source.randint(0, 9), row),
                                           script_output(source.choice("012"), source.randint(0, 9), row)])
                books.added(ref, held[ref])
            for address in [("key", key) for key in range(3)] + [("script", text) for text in "0123"]:
                refs = sorted([ref for ref in held if held[ref].address == address])
                self.assertEqual(books.refs_of(address), refs)
                self.assertEqual(books.balance(address), total([held[ref].bundle for ref in refs]))
            self.assertEqual(books.supply(), total([output.bundle for output in held.values()]))


if __name__ == "__main__":
    unittest.main()
