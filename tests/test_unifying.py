"""keptcoin/scripts/unifying.py (3.3)."""

import random
import unittest

from keptcoin.errors import NoKind
from keptcoin.scripts.kinds import BOOL, INT, OUTPUT, kind_size, replace, unknowns
from keptcoin.scripts.unifying import unify
from tests.helpers import Checks, nested_list


def u(n):
    return ("any", n)


def pair(a, b):
    return ("pair", a, b)


def listed(kind):
    return ("list", kind)


def slow_solution(pairs):
    """The solution by putting in, one unknown after the other; None if there is none."""
    table = {}
    waiting = list(pairs)
    while waiting:
        left, right = [replace(kind, table) for kind in waiting.pop()]
        if left == right:
            continue
        if right[0] == "any" and (left[0] != "any" or left[1] < right[1]):
            left, right = right, left
        if left[0] == "any":
            if left[1] in unknowns(right):
                return None
            table = {number: replace(kind, {left[1]: right}) for number, kind in table.items()}
            table[left[1]] = right
        elif left[0] != right[0]:
            return None
        else:
            waiting.extend(zip(left[1:], right[1:]))
    if max([kind_size(replace(kind, table)) for row in pairs for kind in row], default=0) > 40:
        return None
    return table


class UnifyingTest(Checks, unittest.TestCase):
    def solves(self, pairs, solution):
        before = list(pairs)
        self.assertEqual(unify(pairs), solution)
        self.assertEqual(unify([(right, left) for left, right in pairs]), solution)
        self.assertEqual(unify(pairs[::-1]), solution)
        self.assertEqual(pairs, before)
        for left, right in pairs:
            self.assertEqual(replace(left, solution), replace(right, solution))

    def refuses(self, pairs):
        before = list(pairs)
        self.fails(NoKind, None, unify, pairs)
        self.fails(NoKind, None, unify, [(right, left) for left, right in pairs])
        self.fails(NoKind, None, unify, pairs[::-1])
        self.assertEqual(pairs, before)

    def test_no_pairs(self):
        self.assertEqual(unify([]), {})
        self.assertIsInstance(unify([]), dict)

    def test_of_the_interface(self):
        self.solves([(u(3), u(1)), (listed(u(3)), listed(listed(u(5))))], {3: listed(u(5)), 1: listed(u(5))})

    def test_nothing_to_replace(self):
        self.solves([(INT, INT), (u(4), u(4)), (pair(u(1), BOOL), pair(u(1), BOOL))], {})

    def test_known_kinds(self):
        for kind in (INT, BOOL, OUTPUT, listed(INT), pair(INT, listed(BOOL))):
            self.solves([(u(0), kind)], {0: kind})
        self.solves([(pair(u(7), INT), pair(BOOL, u(2)))], {7: BOOL, 2: INT})
        self.solves([(listed(pair(u(1), u(1))), listed(pair(u(1), INT)))], {1: INT})

    def test_the_least_number_stays(self):
        self.solves([(u(3), u(1))], {3: u(1)})
        self.solves([(u(1), u(3))], {3: u(1)})
        self.solves([(u(5), u(9)), (u(9), u(2)), (u(7), u(5))], {5: u(2), 9: u(2), 7: u(2)})
        self.solves([(u(1), u(2)), (u(3), u(4)), (u(4), u(2))], {2: u(1), 3: u(1), 4: u(1)})
        self.solves([(u(0), listed(u(6))), (u(6), u(4))], {0: listed(u(4)), 6: u(4)})
        self.solves([(pair(u(8), u(3)), pair(u(3), u(5)))], {8: u(3), 5: u(3)})

    def test_chains(self):
        self.solves([(u(k), u(k + 1)) for k in range(199)] + [(u(199), BOOL)], {k: BOOL for k in range(200)})
        self.solves([(u(k), u(k + 1)) for k in range(200)], {k: u(0) for k in range(1, 201)})
        self.solves([(u(k), listed(u(k + 1))) for k in range(5)], {k: nested_list(5 - k, u(5)) for k in range(5)})

    def test_no_replaced_unknown_occurs(self):
        self.solves([(u(0), pair(u(1), u(2))), (u(1), listed(u(2))), (u(2), INT)],
                    {0: pair(listed(INT), INT), 1: listed(INT), 2: INT})

    def test_within_itself(self):
        self.refuses([(u(0), listed(u(0)))])
        self.refuses([(u(0), pair(INT, u(0)))])
        self.refuses([(u(0), listed(u(1))), (u(1), listed(u(0)))])
        self.refuses([(u(0), listed(u(1))), (u(1), pair(u(2), INT)), (u(2), listed(listed(u(0))))])
        self.refuses([(u(0), u(1)), (listed(u(0)), u(1))])
        self.refuses([(pair(u(0), u(1)), pair(listed(u(1)), listed(u(0))))])
        self.refuses([(u(k), listed(u((k + 1) % 200))) for k in range(200)])
        self.refuses([(u(0), listed(u(0))), (u(1), listed(u(1))), (u(0), u(1))])

    def test_unlike_kinds(self):
        plain = [INT, BOOL, OUTPUT, listed(u(0)), pair(u(0), u(1))]
        for left in plain:
            for right in plain:
                if left != right:
                    self.refuses([(left, right)])
                    self.refuses([(listed(pair(INT, left)), listed(pair(INT, right)))])
                    self.refuses([(u(5), left), (u(6), right), (u(5), u(6))])
        self.refuses([(u(0), INT), (u(0), BOOL)])
        self.refuses([(pair(u(0), u(0)), pair(INT, BOOL))])

    def test_size(self):
        self.solves([(u(0), nested_list(39, INT))], {0: nested_list(39, INT)})
        self.solves([(listed(u(0)), listed(nested_list(38, INT)))], {0: nested_list(38, INT)})
        self.solves([(u(0), listed(u(1))), (u(1), nested_list(38, INT))],
                    {0: nested_list(39, INT), 1: nested_list(38, INT)})
        self.refuses([(u(0), listed(u(1))), (u(1), nested_list(39, INT))])
        self.refuses([(u(1), nested_list(39, INT)), (listed(u(1)), listed(u(1)))])
        wide = pair(nested_list(18, INT), nested_list(19, BOOL))
        self.assertEqual(kind_size(wide), 40)
        self.solves([(wide, wide), (u(0), wide)], {0: wide})
        self.solves([(pair(u(0), u(1)), pair(nested_list(18, INT), nested_list(19, INT)))],
                    {0: nested_list(18, INT), 1: nested_list(19, INT)})
        self.refuses([(pair(u(0), u(1)), pair(u(1), u(0))), (u(0), nested_list(19, INT))])
        self.solves([(pair(u(0), u(2)), pair(u(1), u(3))), (u(0), nested_list(19, INT))],
                    {0: nested_list(19, INT), 1: nested_list(19, INT), 3: u(2)})

    def test_growing_kinds_are_found_quickly(self):
        doubling = [(u(k), pair(u(k + 1), u(k + 1))) for k in range(200)]
        self.refuses(doubling)
        self.refuses([row for k in range(60) for row in (
            (u(k), pair(u(k + 1), u(k + 1))), (u(k + 100), pair(u(k + 101), u(k + 101))))] + [(u(0), u(100))])
        self.solves(doubling[:4], {3: pair(u(4), u(4)), **{k: slow_solution(doubling[:4])[k] for k in range(3)}})
        self.refuses(doubling[:5])

    def test_two_hundred_large_pairs(self):
        def great(first):
            kind = u(first)
            for n in range(first + 1, first + 20):
                kind = pair(kind, u(n))
            return kind
        pairs = [(great(40 * k), great(40 * k + 20)) for k in range(200)]
        expected = {n: u(n - 20) for n in range(8000) if n % 40 >= 20}
        self.assertEqual(unify(pairs), expected)

    def test_only_unknowns_of_the_pairs(self):
        source = random.Random(4)
        solved = refused = 0
        for _ in range(4000):
            pairs = [(self.made_up(source, 3), self.made_up(source, 3)) for _ in range(source.randint(1, 5))]
            expected = slow_solution(pairs)
            if expected is None:
                self.fails(NoKind, None, unify, pairs)
                refused += 1
            else:
                self.assertEqual(unify(pairs), expected)
                solved += 1
        self.assertGreater(min(solved, refused), 500)

    def made_up(self, source, deep):
        choice = source.random()
        if deep == 0 or choice < 0.5:
            return u(source.randint(0, 9)) if source.random() < 0.85 else source.choice([INT, BOOL])
        if choice < 0.7:
            return listed(self.made_up(source, deep - 1))
        return pair(self.made_up(source, deep - 1), self.made_up(source, deep - 1))


if __name__ == "__main__":
    unittest.main()
