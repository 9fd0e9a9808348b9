"""keptcoin/scripts/endings.py."""

import unittest

from keptcoin.scripts.endings import Ended, value_in


class EndingsTest(unittest.TestCase):
    def test_values(self):
        for value in (0, True, False, ("list", ()), None):
            self.assertIs(value_in(("value", value)), value)

    def test_errors(self):
        for ending in ("fail", "division", "range", "missing", "nowhere", "tired", "stuck"):
            with self.assertRaises(Ended) as caught:
                value_in((ending, None))
            self.assertEqual(caught.exception.ending, ending)


if __name__ == "__main__":
    unittest.main()
