"""keptcoin/tx/transaction.py (7.1, 7.3)."""

import unittest

from keptcoin.amounts.bundle import Bundle
from keptcoin.tx.output import Output
from keptcoin.tx.transaction import LAST_SLOT, Transaction

FIELDS = ["number", "spends", "looks", "pledge", "makes", "mint", "fee", "begins", "ends", "signers", "data", "deeds",
          "draws", "approved"]
LISTS = ["spends", "looks", "pledge", "makes", "signers", "data", "deeds", "draws"]


def full():
    """All fields, as lists."""
    return {
        "number": 9, "spends": [(0, 1), (3, 2)], "looks": [(4, 4)], "pledge": [(0, 5), (0, 6)],
        "makes": [Output(("key", 7), [(("", 0), 30), (("p", 1), 4)], [5]), Output(("script", "true"), [(("", 0), 2)])],
        "mint": [(("q", 1), 5), (("p", 1), -4)], "fee": 12, "begins": 3, "ends": 8, "signers": [7, 5],
        "data": [(("spend", (0, 1)), [1, 2]), (("mint", "q"), [])], "deeds": [("join", 5), ("leave", 7)],
        "draws": [(7, 60)], "approved": False,
    }


PICTURE = (9, ((0, 1), (3, 2)), ((4, 4),), ((0, 5), (0, 6)),
           ((("key", 7), ((("", 0), 30), (("p", 1), 4)), (5,)), (("script", "true"), ((("", 0), 2),), ())),
           ((("p", 1), -4), (("q", 1), 5)), 12, 3, 8, (7, 5), ((("spend", (0, 1)), (1, 2)), (("mint", "q"), ())),
           (("join", 5), ("leave", 7)), ((7, 60),), False)


class TransactionTest(unittest.TestCase):
    def test_last_slot(self):
        self.assertEqual(LAST_SLOT, 10 ** 9)

    def test_of_the_interface(self):
        output = Output(("key", 7), [(("", 0), 30), (("p", 1), 4)], [5])
        tx = Transaction(number=3, spends=[(0, 2)], makes=[output], fee=12, signers=[7])
        self.assertEqual(tx.picture()[:4], (3, ((0, 2),), (), ()))
        self.assertEqual(tx.picture()[4:7], (((("key", 7), ((("", 0), 30), (("p", 1), 4)), (5,)),), (), 12))
        self.assertEqual(tx.picture()[7:], (0, 1000000000, (7,), (), (), (), True))

    def test_full_fields(self):
        tx = Transaction(**full())
        self.assertEqual(tx.picture(), PICTURE)
        self.assertEqual(list(vars(tx)), FIELDS)

    def test_attributes(self):
        fields = full()
        tx = Transaction(**fields)
        for name in FIELDS:
            if name == "mint":
                self.assertIsInstance(tx.mint, Bundle)
                self.assertEqual(tx.mint.rows, PICTURE[5])
            elif name == "makes":
                self.assertEqual([output.picture() for output in tx.makes], list(PICTURE[4]))
            else:
                self.assertEqual(getattr(tx, name), PICTURE[FIELDS.index(name)])
        for name in LISTS:
            self.assertIsInstance(getattr(tx, name), tuple)
        self.assertIs(tx.approved, False)
        self.assertIs(tx.makes.__class__, tuple)
        self.assertEqual(tx.data, ((("spend", (0, 1)), (1, 2)), (("mint", "q"), ())))

    def test_fields_that_are_left_out(self):
        tx = Transaction(number=1, spends=[], makes=[], fee=0)
        self.assertEqual(tx.picture(), (1, (), (), (), (), (), 0, 0, 10 ** 9, (), (), (), (), True))
        self.assertEqual(tx.mint, Bundle())

    def test_by_keyword_alone(self):
        with self.assertRaises(TypeError):
            Transaction(1, [], [], 0)

    def test_tuples_in_all_places(self):
        fields = full()
        for name in LISTS:
            fields[name] = tuple(fields[name])
        fields["data"] = tuple([(purpose, tuple(datum)) for purpose, datum in fields["data"]])
        fields["mint"] = tuple(fields["mint"])
        self.assertEqual(Transaction(**fields).picture(), PICTURE)
        fields["mint"] = Bundle(fields["mint"])
        self.assertEqual(Transaction(**fields).picture(), PICTURE)

    def test_lists_are_copied(self):
        fields = full()
        tx = Transaction(**fields)
        for name in [*LISTS, "mint"]:
            fields[name].append(fields[name][0])
        fields["data"][0][1].append(99)
        self.assertEqual(tx.picture(), PICTURE)

    def test_nothing_is_modified(self):
        fields, copy = full(), full()
        Transaction(**fields).picture()
        fields["makes"] = [output.picture() for output in fields["makes"]]
        copy["makes"] = [output.picture() for output in copy["makes"]]
        self.assertEqual(fields, copy)

    def test_mint_rows_that_repeat_and_cancel(self):
        tx = Transaction(number=1, spends=[], makes=[], fee=0, mint=[(("p", 1), 5), (("q", 1), 2), (("p", 1), -5)])
        self.assertEqual(tx.mint.rows, ((("q", 1), 2),))

    def test_values_out_of_range(self):
        tx = Transaction(number=-5, spends=[(-1, 10 ** 30)] * 20, makes=[Output(("key", -1), [])] * 20, fee=-7,
                         looks=[(0, 0)] * 20, pledge=[(0, 0)] * 20, mint=[(("", 0), 5), (("", 7), 10 ** 30)], begins=9,
                         ends=-9, signers=[10 ** 20] * 20, data=[(("mint", ""), [10 ** 20] * 20)] * 20,
                         deeds=[("leave", -1)] * 20, draws=[(-1, -1)] * 20)
        self.assertEqual(tx.picture(), (
            -5, ((-1, 10 ** 30),) * 20, ((0, 0),) * 20, ((0, 0),) * 20, ((("key", -1), (), ()),) * 20,
            ((("", 0), 5), (("", 7), 10 ** 30)), -7, 9, -9, (10 ** 20,) * 20,
            ((("mint", ""), (10 ** 20,) * 20),) * 20, (("leave", -1),) * 20, ((-1, -1),) * 20, True))


if __name__ == "__main__":
    unittest.main()
