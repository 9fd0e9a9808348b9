"""keptcoin/amounts/sums.py (1.4)."""

import unittest

from keptcoin.amounts.assets import COIN
from keptcoin.amounts.bundle import Bundle
from keptcoin.amounts.sums import policies, shortfall, split, total

P1, P2, Q1 = ("p", 1), ("p", 2), ("q", 1)


class SumsTest(unittest.TestCase):
    def test_total(self):
        a, b, c = Bundle([(COIN, 1), (P1, 2)]), Bundle([(P1, -2), (Q1, 5)]), Bundle([(COIN, 3)])
        bundles = [a, b, c]
        self.assertEqual(total(bundles).rows, ((COIN, 4), (Q1, 5)))
        self.assertEqual(bundles, [a, b, c])
        self.assertIsInstance(total([]), Bundle)
        self.assertEqual(total([]).rows, ())
        self.assertEqual(total([a]), a)
        self.assertEqual(total([Bundle(), a, Bundle()]), a)
        self.assertEqual(total([a] * 200).rows, ((COIN, 200), (P1, 400)))
        self.assertEqual(a.rows, ((COIN, 1), (P1, 2)))

    def test_policies(self):
        self.assertEqual(policies(Bundle([(Q1, 1), (P2, -1), (P1, 4), (COIN, 2)])), ["p", "q"])
        self.assertEqual(policies(Bundle([(COIN, 2)])), [])
        self.assertEqual(policies(Bundle()), [])
        self.assertEqual(policies(Bundle([(("", 4), 2), (COIN, 3), (("b", 0), 1), (("B", 0), 1)])), ["", "B", "b"])
        self.assertIsInstance(policies(Bundle()), list)

    def test_split(self):
        bundle = Bundle([(COIN, 5), (P1, -3), (Q1, 1), (P2, -1)])
        gains, losses = split(bundle)
        self.assertEqual(gains.rows, ((COIN, 5), (Q1, 1)))
        self.assertEqual(losses.rows, ((P1, 3), (P2, 1)))
        self.assertEqual(gains - losses, bundle)
        self.assertEqual(bundle.rows, ((COIN, 5), (P1, -3), (P2, -1), (Q1, 1)))
        self.assertIsInstance(split(bundle), tuple)
        self.assertEqual(split(Bundle()), (Bundle(), Bundle()))
        self.assertEqual(split(Bundle([(P1, 1)])), (Bundle([(P1, 1)]), Bundle()))
        self.assertEqual(split(Bundle([(P1, -1)])), (Bundle(), Bundle([(P1, 1)])))

    def test_shortfall(self):
        cases = [
            ([(COIN, 4), (P1, 2)], [(COIN, 9), (P1, 1)], ((COIN, 5),)),
            ([], [], ()),
            ([], [(P1, 3)], ((P1, 3),)),
            ([(P1, 3)], [], ()),
            ([(P1, 3)], [(P1, 3)], ()),
            ([(P1, 3)], [(P1, 4)], ((P1, 1),)),
            ([(P1, 4)], [(P1, 3)], ()),
            ([(P1, -3)], [], ((P1, 3),)),
            ([], [(P1, -3)], ()),
            ([(P1, -3)], [(P1, -1), (Q1, 2)], ((P1, 2), (Q1, 2))),
        ]
        for have, need, rows in cases:
            have, need = Bundle(have), Bundle(need)
            before = (have.rows, need.rows)
            self.assertEqual(shortfall(have, need).rows, rows)
            self.assertEqual((have.rows, need.rows), before)
            self.assertIs((have + shortfall(have, need)).covers(need), True)
        self.assertIsInstance(shortfall(Bundle(), Bundle()), Bundle)

    def test_limits(self):
        great = Bundle([(("p", n), 10 ** 60 - 1) for n in range(200)])
        other = Bundle([(("q", n), 1 - 10 ** 60) for n in range(200)])
        self.assertEqual(total([great, other]).rows, great.rows + other.rows)
        self.assertEqual(split(great + other), (great, -other))
        self.assertEqual(shortfall(other, great), great - other)
        self.assertEqual(policies(great + other), ["p", "q"])


if __name__ == "__main__":
    unittest.main()
