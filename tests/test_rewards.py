"""keptcoin/epochs/rewards.py (10.2, 10.3)."""

import random
import unittest

from keptcoin.epochs.rewards import growth, shares


class GrowthTest(unittest.TestCase):
    def test_rounds_down(self):
        for reserve, share, expected in [
            (1000, 50, 50), (999, 50, 49), (19, 50, 0), (20, 50, 1), (39, 50, 1), (1, 999, 0), (1, 1000, 1),
            (12345, 1, 12), (999, 1, 0), (1000, 1, 1), (10 ** 11, 1000, 10 ** 11), (10 ** 11, 1, 10 ** 8),
            (10 ** 11 - 1, 999, 99899999999), (10 ** 40, 7, 7 * 10 ** 37),
        ]:
            self.assertEqual(growth(reserve, share), expected)

    def test_zeros(self):
        for number in (0, 1, 50, 1000, 10 ** 11):
            self.assertEqual((growth(0, number), growth(number, 0)), (0, 0))

    def test_share_above_the_whole(self):
        self.assertEqual(growth(10, 1500), 15)


class SharesTest(unittest.TestCase):
    def test_of_the_interface(self):
        self.assertEqual(shares(100, [(7, 30), (4, 0), (9, 40)]), ([(7, 42), (4, 0), (9, 57)], 1))
        self.assertEqual(shares(100, [(7, 0)]), ([(7, 0)], 100))

    def test_no_rows(self):
        self.assertEqual(shares(100, []), ([], 100))
        self.assertEqual(shares(0, []), ([], 0))

    def test_no_coin(self):
        self.assertEqual(shares(100, [(7, 0), (3, 0), (7, 0)]), ([(7, 0), (3, 0), (7, 0)], 100))
        self.assertEqual(shares(0, [(7, 0)]), ([(7, 0)], 0))

    def test_empty_pot(self):
        self.assertEqual(shares(0, [(7, 5), (8, 0), (9, 10 ** 20)]), ([(7, 0), (8, 0), (9, 0)], 0))

    def test_one_row_takes_all(self):
        for pot in (0, 1, 99, 10 ** 30):
            self.assertEqual(shares(pot, [(7, 3)]), ([(7, pot)], 0))
            self.assertEqual(shares(pot, [(9, 0), (7, 1), (8, 0)]), ([(9, 0), (7, pot), (8, 0)], 0))

    def test_what_is_left(self):
        self.assertEqual(shares(10, [(1, 1), (2, 1), (3, 1)]), ([(1, 3), (2, 3), (3, 3)], 1))
        self.assertEqual(shares(2, [(1, 1), (2, 1), (3, 1)]), ([(1, 0), (2, 0), (3, 0)], 2))
        self.assertEqual(shares(1, [(1, 999), (2, 1)]), ([(1, 0), (2, 0)], 1))
        self.assertEqual(shares(7, [(1, 2), (2, 5)]), ([(1, 2), (2, 5)], 0))

    def test_order_of_the_rows_and_repeated_keys(self):
        self.assertEqual(shares(8, [(9, 1), (2, 2), (9, 1)]), ([(9, 2), (2, 4), (9, 2)], 0))

    def test_great_numbers(self):
        self.assertEqual(shares(10 ** 40, [(1, 10 ** 40), (2, 2 * 10 ** 40)]),
                         ([(1, 10 ** 40 // 3), (2, 2 * 10 ** 40 // 3)], 1))

    def test_kinds_and_arguments(self):
        rows = [(7, 30), (9, 40)]
        given, left = shares(100, rows)
        self.assertIsInstance(shares(100, rows), tuple)
        self.assertIsInstance(given, list)
        self.assertIsInstance(given[0], tuple)
        given.append((1, 1))
        self.assertEqual(rows, [(7, 30), (9, 40)])
        self.assertEqual(shares(100, rows), ([(7, 42), (9, 57)], 1))
        self.assertEqual(left, 1)

    def test_made_up_rows(self):
        source = random.Random(3)
        for _ in range(500):
            rows = [(source.randint(0, 5), source.choice([0, 1, 3, source.randint(0, 10 ** 12)])) for _ in range(source.randint(0, 6))]
            pot = source.choice([0, 1, 7, source.randint(0, 10 ** 15)])
            given, left = shares(pot, rows)
            whole = sum([coin for _, coin in rows])
            self.assertEqual([key for key, _ in given], [key for key, _ in rows])
            self.assertEqual(sum([share for _, share in given]) + left, pot)
            for (_, coin), (_, share) in zip(rows, given):
                if whole:
                    self.assertTrue(share * whole <= pot * coin < (share + 1) * whole)
                else:
                    self.assertEqual(share, 0)
            self.assertTrue(left == pot if not whole else 0 <= left < max(1, len(rows)))


if __name__ == "__main__":
    unittest.main()
