"""keptcoin/chain/tree.py (11.1, 11.3, 11.4)."""

import random
import unittest

from keptcoin.chain.block import Block
from keptcoin.chain.tree import Tree
from keptcoin.errors import BadBlockNumber, BarredBlock, KnownBlock, UnknownParent
from tests.helpers import Checks

# Numbers that no block of the tests has.
STRANGE = [-1, 3, 10 ** 9, 10 ** 9 + 1, 10 ** 30]


def some_block(number, parent, slot=1):
    return Block(number=number, parent=parent, slot=slot)


def seen(tree):
    """All that a tree shows of the numbers up to 60 and of some strange ones."""
    asked = [*range(61), *STRANGE]
    rows = []
    for number in asked:
        row = [tree.block(number) and tree.block(number).picture(), tree.is_barred(number)]
        for method in (tree.height_of, tree.slot_of, tree.parent_of, tree.path_to):
            try:
                row.append(method(number))
            except UnknownParent as e:
                row.append(("refused", e.what))
        rows.append(row)
    return (tree.numbers(), tree.barred(), rows)


class TreeTest(Checks, unittest.TestCase):
    def setUp(self):
        # 9 - 4 - 6, 4 - 8 - 5, 9 - 2, 7 - 1
        self.tree = Tree()
        self.slots = {9: 2, 7: 1, 4: 5, 2: 9, 6: 6, 8: 7, 1: 40, 5: 0}
        for number, parent in [(9, 0), (7, 0), (4, 9), (2, 9), (6, 4), (8, 4), (1, 7), (5, 8)]:
            self.assertIsNone(self.tree.attach(some_block(number, parent, self.slots[number])))

    def refused(self, error, what, function, *arguments):
        before = seen(self.tree)
        self.fails(error, what, function, *arguments)
        self.assertEqual(seen(self.tree), before)

    def test_empty_tree(self):
        tree = Tree()
        self.assertEqual((tree.numbers(), tree.barred()), ([], []))
        self.assertEqual((tree.height_of(0), tree.slot_of(0), tree.parent_of(0), tree.path_to(0)), (0, 0, None, [0]))
        self.assertIsNone(tree.block(0))
        self.assertIs(tree.is_barred(0), False)
        self.fails(UnknownParent, 0, tree.drop, 0)
        for number in (1, 9, -1):
            self.assertIsNone(tree.block(number))
            self.assertIs(tree.is_barred(number), False)
            for method in (tree.height_of, tree.slot_of, tree.parent_of, tree.path_to, tree.drop):
                self.fails(UnknownParent, number, method, number)

    def test_of_the_interface(self):
        tree = Tree()
        tree.attach(Block(number=9, parent=0, slot=2))
        tree.attach(Block(number=4, parent=9, slot=5))
        tree.attach(Block(number=7, parent=0, slot=1))
        self.assertEqual(tree.path_to(4), [0, 9, 4])
        self.assertEqual(tree.drop(9), [4, 9])
        self.assertEqual((tree.numbers(), tree.barred(), tree.height_of(7)), ([7], [4, 9], 1))

    def test_known_blocks(self):
        self.assertEqual(self.tree.numbers(), [1, 2, 4, 5, 6, 7, 8, 9])
        for number, height, parent, path in [(9, 1, 0, [0, 9]), (7, 1, 0, [0, 7]), (4, 2, 9, [0, 9, 4]), (1, 2, 7, [0, 7, 1]),
                                             (2, 2, 9, [0, 9, 2]), (6, 3, 4, [0, 9, 4, 6]), (5, 4, 8, [0, 9, 4, 8, 5])]:
            self.assertEqual(self.tree.height_of(number), height)
            self.assertEqual(self.tree.parent_of(number), parent)
            self.assertEqual(self.tree.slot_of(number), self.slots[number])
            self.assertEqual(self.tree.path_to(number), path)
            self.assertEqual(self.tree.block(number).picture(), (number, parent, self.slots[number], ()))
            self.assertIs(self.tree.is_barred(number), False)

    def test_unknown_numbers(self):
        for number in STRANGE:
            self.assertIsNone(self.tree.block(number))
            for method in (self.tree.height_of, self.tree.slot_of, self.tree.parent_of, self.tree.path_to, self.tree.drop):
                self.refused(UnknownParent, number, method, number)
        self.refused(UnknownParent, 0, self.tree.drop, 0)

    def test_range_of_numbers(self):
        for number in (0, -1, 10 ** 9 + 1, -10 ** 9, 10 ** 30):
            self.refused(BadBlockNumber, number, self.tree.attach, some_block(number, 9))
        for number in (3, 10 ** 9):
            self.tree.attach(some_block(number, 9))
            self.assertEqual(self.tree.height_of(number), 2)

    def test_known_numbers(self):
        for number in (9, 5, 1):
            for parent in (0, 9, 3):
                self.refused(KnownBlock, number, self.tree.attach, some_block(number, parent))

    def test_barred_numbers(self):
        self.tree.drop(4)
        for number in (4, 6, 8, 5):
            self.assertIs(self.tree.is_barred(number), True)
            self.refused(BarredBlock, number, self.tree.attach, some_block(number, 0))
            self.refused(BarredBlock, number, self.tree.attach, some_block(number, 3))

    def test_unknown_parents(self):
        for parent in (3, -1, 10 ** 9, 10):
            self.refused(UnknownParent, parent, self.tree.attach, some_block(10, parent))
        self.tree.drop(4)
        self.refused(UnknownParent, 4, self.tree.attach, some_block(10, 4))
        self.refused(UnknownParent, 5, self.tree.attach, some_block(10, 5))

    def test_two_rules_at_once(self):
        self.tree.drop(8)
        self.refused(BadBlockNumber, 0, self.tree.attach, some_block(0, 3))
        self.refused(KnownBlock, 6, self.tree.attach, some_block(6, 8))
        self.refused(BarredBlock, 5, self.tree.attach, some_block(5, 8))
        self.refused(BarredBlock, 8, self.tree.attach, some_block(8, 8))

    def test_slots_are_not_checked(self):
        for at, slot in enumerate([0, -5, 10 ** 20, 2]):
            self.tree.attach(some_block(20 + at, 4, slot))
            self.assertEqual(self.tree.slot_of(20 + at), slot)

    def test_drop_in_the_middle(self):
        self.assertEqual(self.tree.drop(4), [4, 5, 6, 8])
        self.assertEqual(self.tree.numbers(), [1, 2, 7, 9])
        self.assertEqual(self.tree.barred(), [4, 5, 6, 8])
        self.assertIsNone(self.tree.block(5))
        for method in (self.tree.height_of, self.tree.slot_of, self.tree.parent_of, self.tree.path_to, self.tree.drop):
            self.refused(UnknownParent, 5, method, 5)
        self.assertEqual(self.tree.path_to(2), [0, 9, 2])
        self.assertIsInstance(self.tree.drop(2), list)

    def test_drop_at_the_ends(self):
        self.assertEqual(self.tree.drop(5), [5])
        self.assertEqual(self.tree.drop(6), [6])
        self.assertEqual(self.tree.drop(9), [2, 4, 8, 9])
        self.assertEqual((self.tree.numbers(), self.tree.barred()), ([1, 7], [2, 4, 5, 6, 8, 9]))
        self.assertEqual(self.tree.drop(7), [1, 7])
        self.assertEqual((self.tree.numbers(), self.tree.path_to(0)), ([], [0]))

    def test_growing_behind_a_drop(self):
        self.tree.drop(4)
        self.tree.attach(some_block(3, 9))
        self.tree.attach(some_block(44, 3))
        self.assertEqual(self.tree.path_to(44), [0, 9, 3, 44])
        self.assertEqual(self.tree.drop(3), [3, 44])

    def test_lists_are_copies(self):
        self.tree.drop(7)
        before = seen(self.tree)
        for found in (self.tree.numbers(), self.tree.barred(), self.tree.path_to(5), self.tree.drop(6)):
            found.append(77)
            found.reverse()
        self.tree.attach(some_block(3, 9))
        self.assertEqual(self.tree.numbers(), [2, 3, 4, 5, 8, 9])
        self.assertEqual(self.tree.barred(), [1, 6, 7])
        self.assertNotEqual(seen(self.tree), before)

    def test_two_trees(self):
        other = Tree()
        other.attach(some_block(9, 0))
        other.drop(9)
        self.assertEqual((self.tree.barred(), self.tree.height_of(9)), ([], 1))

    def test_long_branch(self):
        tree = Tree()
        for number in range(1, 3001):
            tree.attach(some_block(number, number - 1, number))
        self.assertEqual(tree.height_of(3000), 3000)
        self.assertEqual(tree.path_to(3000), list(range(3001)))
        self.assertEqual(tree.drop(2), list(range(2, 3001)))

    def test_made_up_trees(self):
        source = random.Random(1)
        for _ in range(40):
            tree, parents, barred = Tree(), {}, []
            for _ in range(120):
                number, parent = source.randint(0, 60), source.choice([0, source.randint(0, 60), *parents])
                known = {0, *parents}
                if source.random() < 0.1 and number in parents:
                    above = [other for other in parents if number in self.branch(other, parents)]
                    self.assertEqual(tree.drop(number), sorted(above))
                    parents = {other: parents[other] for other in parents if other not in above}
                    barred += above
                    continue
                expected = BadBlockNumber if number == 0 else KnownBlock if number in parents else \
                    BarredBlock if number in barred else UnknownParent if parent not in known else None
                if expected is None:
                    tree.attach(some_block(number, parent))
                    parents[number] = parent
                else:
                    what = parent if expected is UnknownParent else number
                    self.fails(expected, what, tree.attach, some_block(number, parent))
            self.assertEqual((tree.numbers(), tree.barred()), (sorted(parents), sorted(barred)))
            for number in parents:
                branch = self.branch(number, parents)
                self.assertEqual((tree.path_to(number), tree.height_of(number)), (branch, len(branch) - 1))

    def branch(self, number, parents):
        path = [number]
        while path[0]:
            path.insert(0, parents[path[0]])
        return path


if __name__ == "__main__":
    unittest.main()
