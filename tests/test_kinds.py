"""keptcoin/scripts/kinds.py (3.1, 3.2)."""

import unittest

from keptcoin.scripts.kinds import (
    BOOL, INT, MOST_SIZE, OUTPUT, format_kind, is_instance, kind_size, replace, unknowns)
from tests.helpers import nested_list


def unknown(n):
    return ("any", n)


def pair(a, b):
    return ("pair", a, b)


def listed(kind):
    return ("list", kind)


A, B, C = unknown(0), unknown(1), unknown(2)


class KindsTest(unittest.TestCase):
    def test_constants(self):
        self.assertEqual((INT, BOOL, OUTPUT, MOST_SIZE), (("int",), ("bool",), ("output",), 40))

    def test_size(self):
        for size, kind in [(1, INT), (1, BOOL), (1, OUTPUT), (1, unknown(7)), (2, listed(INT)), (3, pair(INT, A)),
                           (4, listed(pair(A, A))), (6, pair(pair(INT, BOOL), listed(A))),
                           (40, nested_list(39, INT)), (200, nested_list(199, A))]:
            self.assertEqual(kind_size(kind), size)

    def test_format(self):
        for text, kind in [("int", INT), ("bool", BOOL), ("output", OUTPUT), ("any0", A), ("any12", unknown(12)),
                           ("[int]", listed(INT)), ("(int, bool)", pair(INT, BOOL)), ("[[any1]]", listed(listed(B))),
                           ("(any2, [int])", pair(C, listed(INT))),
                           ("((int, int), [(output, any0)])", pair(pair(INT, INT), listed(pair(OUTPUT, A))))]:
            self.assertEqual(format_kind(kind), text)
        self.assertEqual(format_kind(nested_list(199, INT)), "[" * 199 + "int" + "]" * 199)

    def test_unknowns(self):
        for numbers, kind in [([], INT), ([], listed(pair(INT, OUTPUT))), ([5], unknown(5)),
                              ([2, 0, 1], pair(C, pair(A, listed(B)))), ([1, 0], pair(pair(B, A), pair(A, B))),
                              ([3], nested_list(199, unknown(3)))]:
            self.assertEqual(unknowns(kind), numbers)
            self.assertIsInstance(unknowns(kind), list)

    def test_replace(self):
        self.assertEqual(replace(A, {0: INT}), INT)
        self.assertEqual(replace(A, {1: INT}), A)
        self.assertEqual(replace(A, {}), A)
        self.assertEqual(replace(INT, {0: BOOL}), INT)
        self.assertEqual(replace(pair(A, listed(pair(B, A))), {0: INT, 1: BOOL}), pair(INT, listed(pair(BOOL, INT))))
        self.assertEqual(replace(nested_list(199, A), {0: B}), nested_list(199, B))

    def test_replace_all_at_once(self):
        self.assertEqual(replace(pair(A, B), {0: B, 1: A}), pair(B, A))
        self.assertEqual(replace(pair(A, B), {0: listed(A), 1: pair(A, B)}), pair(listed(A), pair(A, B)))
        self.assertEqual(replace(A, {0: B, 1: INT}), B)

    def test_replace_leaves_its_arguments(self):
        kind, table = pair(A, B), {0: INT, 1: A}
        replace(kind, table)
        self.assertEqual((kind, table), (pair(A, B), {0: INT, 1: A}))

    def test_instances(self):
        for kind, general in [
            (INT, INT), (INT, A), (listed(INT), A), (listed(INT), listed(A)), (pair(INT, BOOL), pair(A, B)),
            (pair(INT, INT), pair(A, A)), (pair(INT, INT), pair(A, B)), (A, A), (A, B), (B, A), (listed(A), A),
            (pair(B, A), pair(A, B)), (pair(A, A), pair(A, B)), (pair(listed(A), B), pair(B, A)),
            (pair(pair(A, B), pair(A, B)), pair(C, C)), (nested_list(199, INT), nested_list(199, A)),
            (nested_list(199, INT), nested_list(100, A)), (pair(B, pair(B, A)), pair(A, pair(A, B))),
        ]:
            self.assertIs(is_instance(kind, general), True, (kind, general))
            self.assertIs(is_instance(kind, kind), True)
            self.assertIs(is_instance(general, general), True)

    def test_no_instances(self):
        for kind, general in [
            (A, INT), (INT, BOOL), (INT, listed(A)), (listed(INT), INT), (listed(INT), pair(A, B)),
            (pair(INT, BOOL), pair(A, A)), (pair(A, B), pair(A, A)), (pair(A, INT), pair(A, A)),
            (pair(INT, A), pair(A, A)), (listed(A), listed(listed(A))), (pair(INT, pair(BOOL, INT)), pair(A, pair(A, B))),
            (pair(pair(A, B), pair(B, A)), pair(C, C)), (nested_list(199, INT), nested_list(199, BOOL)),
            (nested_list(100, A), nested_list(199, A)), (OUTPUT, INT), (A, listed(A)),
        ]:
            self.assertIs(is_instance(kind, general), False, (kind, general))


if __name__ == "__main__":
    unittest.main()
