"""keptcoin/amounts/assets.py and keptcoin/amounts/bundle.py (0.3, 1.1 to 1.5)."""

import itertools
import unittest

from keptcoin.amounts.assets import COIN, is_name
from keptcoin.amounts.bundle import Bundle

P1, P2, Q1 = ("p", 1), ("p", 2), ("q", 1)


class AssetsTest(unittest.TestCase):
    def test_coin(self):
        self.assertEqual(COIN, ("", 0))
        self.assertIsInstance(COIN, tuple)

    def test_is_name(self):
        for number, good in [(-1, False), (0, True), (1, True), (10 ** 9, True), (10 ** 9 + 1, False),
                             (10 ** 39, False), (-10 ** 39, False)]:
            self.assertIs(is_name(number), good, number)


class BundleTest(unittest.TestCase):
    def test_rows_of_the_interface(self):
        bundle = Bundle([(("p", 2), 5), (("", 0), 7), (("p", 2), -5), (("p", 1), 3)])
        self.assertEqual(bundle.rows, ((("", 0), 7), (("p", 1), 3)))
        self.assertIsInstance(bundle.rows, tuple)
        for row in bundle.rows:
            self.assertIsInstance(row, tuple)

    def test_empty(self):
        for bundle in (Bundle(), Bundle([]), Bundle(()), Bundle([(COIN, 0), (P1, 0)]), Bundle([(P1, 2), (P1, -2)])):
            self.assertEqual(bundle.rows, ())
            self.assertEqual(bundle.coin, 0)
            self.assertIs(bool(bundle), False)

    def test_any_order(self):
        rows = [(P1, 3), (P1, -1), (COIN, 4), (Q1, 0), (P2, -6)]
        for order in itertools.permutations(rows):
            self.assertEqual(Bundle(order).rows, ((COIN, 4), (P1, 2), (P2, -6)))

    def test_no_coin(self):
        self.assertEqual(Bundle([(P2, 1), (P1, 1)]).rows, ((P1, 1), (P2, 1)))

    def test_order_of_assets(self):
        assets = [("", 0), (" ", 5), ("A", 0), ("Z", 9), ("a", 2), ("a", 10), ("a", 10 ** 9), ("aa", 0), ("b", 0)]
        rows = [(asset, 1) for asset in assets]
        self.assertEqual(Bundle(rows[::-1]).rows, tuple(rows))

    def test_same_from_list_tuple_and_bundle(self):
        rows = [(P2, 5), (COIN, 7), (P2, 1)]
        bundle = Bundle(rows)
        for other in (Bundle(tuple(rows)), Bundle(bundle), Bundle(bundle.rows), Bundle(Bundle(bundle))):
            self.assertEqual(other.rows, bundle.rows)
        self.assertEqual(rows, [(P2, 5), (COIN, 7), (P2, 1)])

    def test_list_changed_later(self):
        rows = [(P1, 1)]
        bundle = Bundle(rows)
        rows[0] = (P1, 9)
        rows.append((Q1, 1))
        self.assertEqual(bundle.rows, ((P1, 1),))
        self.assertEqual(bundle.of(P1), 1)
        self.assertNotIn(Q1, bundle)

    def test_equality(self):
        self.assertIs(Bundle([(P1, 1), (COIN, 2)]) == Bundle([(COIN, 2), (P1, 1)]), True)
        self.assertIs(Bundle([(P1, 1)]) == Bundle([(P1, 2)]), False)
        self.assertIs(Bundle([(P1, 1)]) == Bundle([(P2, 1)]), False)
        self.assertIs(Bundle([(P1, 1)]) != Bundle([(P1, 1)]), False)
        self.assertIs(Bundle() == Bundle([(P1, 0)]), True)
        for other in (((P1, 1),), [(P1, 1)], 1, "p", None, ()):
            self.assertIs(Bundle([(P1, 1)]) == other, False)
        self.assertIs(Bundle() == (), False)
        self.assertIs(Bundle() == 0, False)

    def test_of_and_in(self):
        bundle = Bundle([(P1, 3), (P2, -4)])
        for asset, quantity in [(P1, 3), (P2, -4), (COIN, 0), (Q1, 0), (("", 1), 0)]:
            self.assertEqual(bundle.of(asset), quantity)
            self.assertIs(asset in bundle, quantity != 0)

    def test_coin_and_of_coin(self):
        self.assertEqual(Bundle([(COIN, -3), (P1, 2)]).coin, -3)
        self.assertEqual(Bundle([(P1, 2)]).coin, 0)
        self.assertEqual(Bundle([(("", 1), 2)]).coin, 0)
        self.assertEqual(Bundle.of_coin(5).rows, ((COIN, 5),))
        self.assertEqual(Bundle.of_coin(-5).rows, ((COIN, -5),))
        self.assertEqual(Bundle.of_coin(0).rows, ())
        self.assertIsInstance(Bundle.of_coin(1), Bundle)

    def test_tokens(self):
        self.assertEqual(Bundle([(COIN, 3), (P1, 2), (("", 1), 4)]).tokens().rows, ((("", 1), 4), (P1, 2)))
        self.assertEqual(Bundle([(COIN, 3)]).tokens().rows, ())
        self.assertEqual(Bundle([(Q1, -3)]).tokens(), Bundle([(Q1, -3)]))
        self.assertEqual(Bundle().tokens(), Bundle())

    def test_bool_and_iteration(self):
        bundle = Bundle([(P1, 2), (COIN, -1)])
        self.assertIs(bool(bundle), True)
        self.assertIs(bool(Bundle([(P1, -1)])), True)
        self.assertEqual(list(bundle), [(COIN, -1), (P1, 2)])
        self.assertEqual(list(bundle), list(bundle))
        self.assertEqual(list(Bundle()), [])

    def test_sum_difference_negative(self):
        a = Bundle([(COIN, 5), (P1, 3), (P2, 1)])
        b = Bundle([(COIN, 2), (P1, -3), (Q1, 4)])
        self.assertEqual((a + b).rows, ((COIN, 7), (P2, 1), (Q1, 4)))
        self.assertEqual((a - b).rows, ((COIN, 3), (P1, 6), (P2, 1), (Q1, -4)))
        self.assertEqual((b - a).rows, ((COIN, -3), (P1, -6), (P2, -1), (Q1, 4)))
        self.assertEqual((-b).rows, ((COIN, -2), (P1, 3), (Q1, -4)))
        self.assertEqual(a - a, Bundle())
        self.assertEqual(a + Bundle(), a)
        self.assertEqual(Bundle() + a, a)
        self.assertEqual(a - Bundle(), a)
        self.assertEqual(Bundle() - a, -a)
        self.assertEqual(-Bundle(), Bundle())
        self.assertEqual(a.rows, ((COIN, 5), (P1, 3), (P2, 1)))
        self.assertEqual(b.rows, ((COIN, 2), (P1, -3), (Q1, 4)))

    def test_adding_in_place_leaves_the_first_bundle(self):
        a = Bundle([(P1, 1)])
        b = a
        b += Bundle([(P1, 1)])
        self.assertEqual((a.of(P1), b.of(P1)), (1, 2))

    def test_covers(self):
        a = Bundle([(COIN, 5), (P1, 3)])
        cases = [
            (a, a, True), (a, Bundle(), True), (Bundle(), a, False), (Bundle(), Bundle(), True),
            (a, Bundle([(COIN, 5), (P1, 2)]), True), (a, Bundle([(COIN, 5), (P1, 4)]), False),
            (a, Bundle([(COIN, 6), (P1, 3)]), False), (a, Bundle([(P1, 3)]), True), (a, Bundle([(Q1, 1)]), False),
            (a, Bundle([(Q1, -1)]), True), (Bundle([(Q1, -1)]), Bundle(), False),
            (Bundle([(Q1, -1)]), Bundle([(Q1, -1)]), True), (Bundle([(Q1, -1)]), Bundle([(Q1, -2)]), True),
            (Bundle([(Q1, -2)]), Bundle([(Q1, -1)]), False), (Bundle([(COIN, 9), (Q1, -1)]), a, False),
        ]
        for have, need, covered in cases:
            self.assertIs(have.covers(need), covered, (have.rows, need.rows))

    def test_limits(self):
        rows = [(("p", n), 10 ** 60 - 1) for n in range(200)]
        bundle = Bundle(rows)
        self.assertEqual(bundle.rows, tuple(rows))
        self.assertEqual((bundle + bundle).of(("p", 199)), 2 * (10 ** 60 - 1))
        self.assertEqual((bundle - bundle).rows, ())
        self.assertIs(bundle.covers(bundle), True)
        self.assertIs(bundle.covers(bundle + Bundle.of_coin(1)), False)
        self.assertEqual(Bundle([(COIN, 10 ** 60 - 1)] * 3 + [(COIN, 1 - 10 ** 60)] * 2).coin, 10 ** 60 - 1)


if __name__ == "__main__":
    unittest.main()
