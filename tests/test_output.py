"""keptcoin/tx/output.py (7.2)."""

import unittest

from keptcoin.amounts.bundle import Bundle
from keptcoin.tx.output import Output, is_datum

MOST = 10 ** 15


class OutputTest(unittest.TestCase):
    def test_attributes(self):
        output = Output(("key", 7), [(("p", 1), 4), (("", 0), 30)], [5, -6])
        self.assertEqual(output.address, ("key", 7))
        self.assertIsInstance(output.bundle, Bundle)
        self.assertEqual(output.bundle.rows, ((("", 0), 30), (("p", 1), 4)))
        self.assertEqual(output.datum, (5, -6))
        self.assertIsInstance(output.datum, tuple)
        self.assertEqual(set(vars(output)), {"address", "bundle", "datum"})

    def test_bundle_in_place_of_rows(self):
        bundle = Bundle([(("p", 1), 4)])
        self.assertEqual(Output(("key", 7), bundle).bundle, bundle)
        self.assertEqual(Output(("key", 7), ()).bundle.rows, ())

    def test_rows_that_repeat_and_cancel(self):
        output = Output(("key", 7), ((("p", 2), 5), (("", 0), 1), (("p", 2), -5), (("", 0), 2)))
        self.assertEqual(output.bundle.rows, ((("", 0), 3),))

    def test_datum(self):
        self.assertEqual(Output(("key", 7), []).datum, ())
        self.assertEqual(Output(("key", 7), [], datum=(1, 2)).datum, (1, 2))

    def test_picture(self):
        self.assertEqual(Output(("script", "true"), [(("", 0), 3)], [4]).picture(),
                         (("script", "true"), ((("", 0), 3),), (4,)))
        self.assertEqual(Output(("key", 0), []).picture(), (("key", 0), (), ()))
        picture = Output(("key", 1), [(("b", 2), 1), (("a", 3), -1)], [1, 2]).picture()
        self.assertEqual(picture, (("key", 1), ((("a", 3), -1), (("b", 2), 1)), (1, 2)))
        for item in (picture, picture[1], picture[2]):
            self.assertIsInstance(item, tuple)

    def test_values_out_of_range(self):
        rows = [(("", 5), 10 ** 20), (("p" * 500, -1), -3)]
        output = Output(("key", -4), rows, [MOST + 1] * 30)
        self.assertEqual(output.picture(), (("key", -4), tuple(rows), (MOST + 1,) * 30))
        self.assertEqual(Output(("script", ""), []).picture(), (("script", ""), (), ()))

    def test_lists_are_copied(self):
        rows, datum = [(("", 0), 3)], [4]
        output = Output(("key", 7), rows, datum)
        rows.append((("", 0), 3))
        datum.append(5)
        self.assertEqual(output.picture(), (("key", 7), ((("", 0), 3),), (4,)))
        self.assertEqual((rows, datum), ([(("", 0), 3), (("", 0), 3)], [4, 5]))


class DatumTest(unittest.TestCase):
    def test_numbers_of_integers(self):
        for many in range(9):
            self.assertIs(is_datum([1] * many), True)
            self.assertIs(is_datum((1,) * many), True)
        for many in (9, 10, 200):
            self.assertIs(is_datum([1] * many), False)

    def test_ranges(self):
        for number in (0, 1, -1, MOST, -MOST):
            self.assertIs(is_datum([number]), True)
            self.assertIs(is_datum((5,) * 7 + (number,)), True)
        for number in (MOST + 1, -MOST - 1, 10 ** 39):
            self.assertIs(is_datum([number]), False)
            self.assertIs(is_datum((5,) * 7 + (number,)), False)
            self.assertIs(is_datum((number,) + (5,) * 7), False)


if __name__ == "__main__":
    unittest.main()
