"""keptcoin/tx/params.py."""

import unittest

from keptcoin.tx.params import Params

# Each parameter with the value that it has if it is left out, and its bounds.
PARAMS = [("deposit", 20, 0, 10 ** 6), ("fee_base", 5, 0, 1000), ("fee_weight", 1, 0, 1000), ("fee_step", 2, 0, 1000),
          ("pledge_rate", 150, 0, 10000), ("coin_base", 2, 1, 1000), ("epoch_length", 10, 2, 1000), ("share", 50, 0, 1000),
          ("depth", 4, 0, 50), ("most_steps", 20000, 0, 100000)]


class ParamsTest(unittest.TestCase):
    def test_left_out(self):
        self.assertEqual(vars(Params()), {name: usual for name, usual, _, _ in PARAMS})

    def test_each_alone_at_both_ends(self):
        for name, usual, least, greatest in PARAMS:
            for value in (least, greatest):
                expected = {other: other_usual for other, other_usual, _, _ in PARAMS}
                expected[name] = value
                self.assertEqual(vars(Params(**{name: value})), expected)

    def test_all_together(self):
        least = {name: low for name, _, low, _ in PARAMS}
        greatest = {name: high for name, _, _, high in PARAMS}
        one, other = Params(**least), Params(**greatest)
        self.assertEqual(vars(one), least)
        self.assertEqual(vars(other), greatest)
        self.assertEqual(vars(Params())["deposit"], 20)

    def test_by_keyword_alone(self):
        with self.assertRaises(TypeError):
            Params(20)


if __name__ == "__main__":
    unittest.main()
