"""keptcoin/state/state.py (8.1 to 8.6)."""

import random
import unittest

from keptcoin.amounts.bundle import Bundle
from keptcoin.amounts.sums import total
from keptcoin.errors import Absent, NoMark, NoPot, Present
from keptcoin.state.books import Books
from keptcoin.state.state import State
from tests.helpers import Checks
from tests.ledger import key_output, script_output

COIN = ("", 0)
ADDRESSES = [("key", 0), ("key", 3), ("key", 4), ("script", "3"), ("script", "x")]


def books_of(state):
    """What the books tell of each address."""
    rows = [(state.books.refs_of(address), state.books.balance(address).rows) for address in ADDRESSES]
    return (rows, state.books.supply().rows)


def seen(state):
    """All that the state and its books show."""
    keys = range(6)
    return (state.picture(), books_of(state), state.total().rows, state.unspent(), state.keys_joined(), state.stakes(),
            [state.account(key) for key in keys], [state.is_used(number) for number in keys],
            [output and output.picture() for output in [state.output((0, at)) for at in keys]])


def change(state, source):
    """Makes a change, perhaps one that is refused; returns whether it was made."""
    ref = (source.randint(0, 2), source.randint(0, 2))
    try:
        source.choice([
            lambda: state.add_output(ref, source.choice([key_output(3, 5), key_output(4, 7, (("p", 1), 2)), script_output("3", 2)])),
            lambda: state.remove_output(ref),
            lambda: state.set_account(source.randint(0, 3), source.choice([None, (20, 0), (0, 7), (3, 4)])),
            lambda: state.set_pot(source.choice(["fees", "reserve", "treasury", "purse"]), source.randint(0, 50)),
            lambda: state.set_clock(source.randint(0, 99), source.randint(0, 9)),
            lambda: state.set_stakes([(key, source.randint(1, 9)) for key in source.sample(range(6), 2)]),
            lambda: state.use(source.randint(0, 5)),
        ])()
    except (Present, Absent, NoPot):
        return False
    return True


class FirstDayTest(unittest.TestCase):
    def test_no_grant(self):
        state = State([], 0)
        self.assertEqual(state.picture(), ((), (), (), 0, 0, 0, 0, 0, ()))
        self.assertEqual(state.total(), Bundle())
        self.assertEqual((state.unspent(), state.keys_joined(), state.stakes(), state.mark()), ([], [], [], 0))

    def test_of_the_interface(self):
        state = State([(3, 50)], 7)
        mark = state.mark()
        state.set_account(3, (20, 0))
        self.assertEqual(state.total().rows, ((COIN, 77),))
        state.rewind(mark)
        self.assertEqual(state.picture(), ((((0, 0), (("key", 3), ((COIN, 50),), ())),), (), (), 0, 7, 0, 0, 0, ()))

    def test_several_grants_to_one_key(self):
        state = State([(3, 50), (4, 10 ** 10), (3, 1)], 10 ** 11)
        self.assertEqual(state.unspent(), [(0, 0), (0, 1), (0, 2)])
        self.assertEqual(state.output((0, 1)).picture(), (("key", 4), ((COIN, 10 ** 10),), ()))
        self.assertEqual(state.output((0, 2)).picture(), (("key", 3), ((COIN, 1),), ()))
        self.assertEqual(state.books.refs_of(("key", 3)), [(0, 0), (0, 2)])
        self.assertEqual(state.books.balance(("key", 3)).rows, ((COIN, 51),))
        self.assertEqual(state.total().rows, ((COIN, 10 ** 10 + 10 ** 11 + 51),))
        self.assertEqual((state.fees, state.reserve, state.treasury, state.slot, state.epoch), (0, 10 ** 11, 0, 0, 0))
        self.assertEqual(state.mark(), 0)

    def test_many_grants(self):
        grants = [(at, at + 1) for at in range(20)]
        state = State(grants, 0)
        self.assertEqual(state.unspent(), [(0, at) for at in range(20)])
        self.assertEqual(state.total().coin, 210)
        self.assertEqual([ref for ref, _ in state.picture()[0]], [(0, at) for at in range(20)])

    def test_what_is_not_there(self):
        state = State([(3, 50)], 7)
        for ref in [(0, 1), (1, 0), (-1, 0)]:
            self.assertIsNone(state.output(ref))
        self.assertIsNone(state.account(3))
        self.assertIs(state.is_used(0), False)
        self.assertIsInstance(state.books, Books)

    def test_grants_are_copied(self):
        grants = [(3, 50), (4, 60)]
        state = State(grants, 7)
        picture = state.picture()
        grants.append((5, 70))
        grants[0] = (9, 9)
        self.assertEqual(state.picture(), picture)
        self.assertEqual(State(tuple([(3, 50), (4, 60)]), 7).picture(), picture)


class ChangeTest(Checks, unittest.TestCase):
    def setUp(self):
        self.state = State([(3, 50), (4, 60)], 7)

    def refused(self, error, what, function, *arguments):
        before, mark = seen(self.state), self.state.mark()
        self.fails(error, what, function, *arguments)
        self.assertEqual((seen(self.state), self.state.mark()), (before, mark))

    def made(self, function, *arguments):
        """Makes a change that counts as one and that can be taken back, and makes it again."""
        before, mark = seen(self.state), self.state.mark()
        self.assertIsNone(function(*arguments))
        self.assertEqual(self.state.mark(), mark + 1)
        after = seen(self.state)
        self.state.rewind(mark)
        self.assertEqual((seen(self.state), self.state.mark()), (before, mark))
        function(*arguments)
        self.assertEqual(seen(self.state), after)

    def test_add_output(self):
        output = script_output("x", 9, (("p", 1), 4), datum=[5])
        self.made(self.state.add_output, (5, 0), output)
        self.assertEqual(self.state.output((5, 0)).picture(), output.picture())
        self.assertEqual(self.state.unspent(), [(0, 0), (0, 1), (5, 0)])
        self.assertEqual(self.state.books.refs_of(("script", "x")), [(5, 0)])
        self.refused(Present, (5, 0), self.state.add_output, (5, 0), output)
        self.refused(Present, (0, 1), self.state.add_output, (0, 1), key_output(9, 9))

    def test_remove_output(self):
        mark = self.state.mark()
        self.assertEqual(self.state.remove_output((0, 0)).picture(), key_output(3, 50).picture())
        self.assertEqual(self.state.mark(), mark + 1)
        self.assertIsNone(self.state.output((0, 0)))
        self.assertEqual(self.state.books.refs_of(("key", 3)), [])
        self.assertEqual(self.state.books.balance(("key", 3)), Bundle())
        self.refused(Absent, (0, 0), self.state.remove_output, (0, 0))
        self.refused(Absent, (7, 7), self.state.remove_output, (7, 7))
        self.state.rewind(mark)
        self.assertEqual(self.state.picture(), State([(3, 50), (4, 60)], 7).picture())

    def test_add_and_remove_again(self):
        for _ in range(3):
            self.made(self.state.add_output, (5, 0), key_output(3, 1))
            self.state.remove_output((5, 0))
        self.assertEqual(self.state.mark(), 6)
        self.state.remove_output((0, 1))
        self.state.add_output((0, 1), key_output(4, 8))
        self.assertEqual(self.state.books.balance(("key", 4)).coin, 8)
        self.state.rewind(0)
        self.assertEqual(self.state.books.balance(("key", 4)).coin, 60)

    def test_set_account(self):
        self.made(self.state.set_account, 3, (20, 5))
        self.assertEqual(self.state.account(3), (20, 5))
        self.made(self.state.set_account, 3, (20, 5))
        self.made(self.state.set_account, 3, (0, 10 ** 20))
        self.made(self.state.set_account, 1, (1, 1))
        self.assertEqual(self.state.keys_joined(), [1, 3])
        self.assertEqual(self.state.picture()[1], ((1, 1, 1), (3, 0, 10 ** 20)))
        self.made(self.state.set_account, 3, None)
        self.assertIsNone(self.state.account(3))
        self.assertEqual(self.state.keys_joined(), [1])
        self.made(self.state.set_account, 3, None)
        self.made(self.state.set_account, 10 ** 9, (2, 2))

    def test_set_pot(self):
        for at, pot in enumerate(["fees", "reserve", "treasury"]):
            self.made(self.state.set_pot, pot, 5 + at)
            self.made(self.state.set_pot, pot, 5 + at)
            self.assertEqual(self.state.picture()[3 + at], 5 + at)
        self.assertEqual((self.state.fees, self.state.reserve, self.state.treasury), (5, 6, 7))
        for pot in ("", "fee", "Fees", "deposit", "slot", "treasury "):
            self.refused(NoPot, pot, self.state.set_pot, pot, 5)

    def test_set_clock(self):
        self.made(self.state.set_clock, 25, 2)
        self.assertEqual((self.state.slot, self.state.epoch), (25, 2))
        self.made(self.state.set_clock, 25, 2)
        self.made(self.state.set_clock, 3, 9)
        self.assertEqual((self.state.slot, self.state.epoch), (3, 9))
        self.assertEqual(self.state.picture()[6:8], (3, 9))

    def test_set_stakes(self):
        self.made(self.state.set_stakes, [(4, 7), (1, 9), (3, 0)])
        self.assertEqual(self.state.stakes(), [(1, 9), (3, 0), (4, 7)])
        self.assertEqual(self.state.picture()[2], ((1, 9), (3, 0), (4, 7)))
        self.made(self.state.set_stakes, [(1, 9), (3, 0), (4, 7)])
        self.made(self.state.set_stakes, [])
        self.assertEqual(self.state.stakes(), [])
        self.made(self.state.set_stakes, [(9, 1)])

    def test_use(self):
        self.made(self.state.use, 9)
        self.assertIs(self.state.is_used(9), True)
        self.assertIs(self.state.is_used(8), False)
        self.refused(Present, 9, self.state.use, 9)
        self.made(self.state.use, 4)
        self.assertEqual(self.state.picture()[8], (4, 9))

    def test_looking_changes_nothing(self):
        self.state.set_account(3, (20, 5))
        mark = self.state.mark()
        first = seen(self.state)
        self.assertEqual(seen(self.state), first)
        self.assertEqual(self.state.mark(), mark)

    def test_total(self):
        self.state.set_account(3, (20, 5))
        self.state.set_account(8, (1, 0))
        self.state.set_pot("fees", 1000)
        self.state.set_pot("treasury", 10000)
        self.state.add_output((1, 0), script_output("x", 9, (("p", 1), 4)))
        self.state.add_output((1, 1), key_output(8, 1, (("p", 1), -6), (("q", 1), 2)))
        self.state.set_stakes([(3, 10 ** 9)])
        self.assertEqual(self.state.total().rows, ((COIN, 50 + 60 + 7 + 26 + 11000 + 10), (("p", 1), -2), (("q", 1), 2)))

    def test_picture_ascends(self):
        for number in (9, 2, 10):
            self.state.add_output((number, 1), key_output(3, number))
            self.state.set_account(number, (number, 0))
            self.state.use(number)
        self.state.add_output((2, 0), key_output(3, 1))
        picture = self.state.picture()
        self.assertEqual([ref for ref, _ in picture[0]], [(0, 0), (0, 1), (2, 0), (2, 1), (9, 1), (10, 1)])
        self.assertEqual(picture[1], ((2, 2, 0), (9, 9, 0), (10, 10, 0)))
        self.assertEqual(picture[8], (2, 9, 10))
        self.assertEqual(len(picture), 9)

    def test_what_is_passed_and_returned_may_be_changed(self):
        rows = [(4, 7), (1, 9)]
        self.state.set_stakes(rows)
        before = seen(self.state)
        rows.append((2, 2))
        for answer in (self.state.stakes(), self.state.unspent(), self.state.keys_joined(),
                       self.state.books.refs_of(("key", 3))):
            answer.append((5, 5))
            answer.reverse()
        self.assertEqual(seen(self.state), before)
        self.assertEqual(rows, [(4, 7), (1, 9), (2, 2)])

    def test_states_beside_each_other(self):
        other = State([(3, 50), (4, 60)], 7)
        before = seen(other)
        source = random.Random(22)
        for _ in range(50):
            change(self.state, source)
        self.assertEqual((seen(other), other.mark()), (before, 0))


class MarkTest(Checks, unittest.TestCase):
    def grown(self, seed, many=40):
        """A state behind so many changes, and what it showed at each mark."""
        source = random.Random(seed)
        state = State([(3, 50), (4, 60)], 7)
        shown = [seen(state)]
        while len(shown) <= many:
            if change(state, source):
                shown.append(seen(state))
                self.assertEqual(state.mark(), len(shown) - 1)
            else:
                self.assertEqual(seen(state), shown[-1])
        return state, shown

    def refused(self, state, function, mark):
        before, at = seen(state), state.mark()
        self.fails(NoMark, mark, function, mark)
        self.assertEqual((seen(state), state.mark()), (before, at))

    def test_rewinding_to_every_mark(self):
        for mark in range(41):
            state, shown = self.grown(30 + mark)
            self.assertIsNone(state.rewind(mark))
            self.assertEqual((seen(state), state.mark()), (shown[mark], mark))

    def test_rewinding_step_by_step(self):
        state, shown = self.grown(23)
        for mark in range(40, -1, -1):
            state.rewind(mark)
            self.assertEqual((seen(state), state.mark()), (shown[mark], mark))
        self.assertEqual(state.picture(), State([(3, 50), (4, 60)], 7).picture())

    def test_marks_that_are_not_there(self):
        state, _ = self.grown(24)
        for mark in (41, 42, 10 ** 30, -1, -2, -10 ** 30):
            self.refused(state, state.rewind, mark)
            self.refused(state, state.forget, mark)

    def test_changes_behind_a_rewind(self):
        state, shown = self.grown(25)
        state.rewind(10)
        state.use(77)
        self.assertEqual(state.mark(), 11)
        self.refused(state, state.rewind, 12)
        state.set_clock(5, 5)
        state.rewind(11)
        self.assertTrue(state.is_used(77))
        state.rewind(10)
        self.assertEqual(seen(state), shown[10])
        state.rewind(0)
        self.assertEqual(seen(state), shown[0])

    def test_forgetting(self):
        state, shown = self.grown(26)
        self.assertIsNone(state.forget(15))
        self.assertEqual((seen(state), state.mark()), (shown[40], 40))
        for mark in (14, 0, -1):
            self.refused(state, state.rewind, mark)
            self.refused(state, state.forget, mark)
        for mark in (40, 30, 16, 15):
            state.rewind(mark)
            self.assertEqual((seen(state), state.mark()), (shown[mark], mark))
        self.refused(state, state.rewind, 14)

    def test_forgetting_again(self):
        state, shown = self.grown(27)
        state.forget(15)
        state.forget(15)
        state.forget(25)
        self.refused(state, state.forget, 15)
        self.refused(state, state.rewind, 24)
        state.rewind(30)
        state.use(99)
        self.assertEqual(state.mark(), 31)
        state.forget(31)
        self.refused(state, state.rewind, 30)
        state.rewind(31)
        self.assertTrue(state.is_used(99))

    def test_forgetting_nothing_and_everything(self):
        state, shown = self.grown(28)
        state.forget(0)
        state.rewind(0)
        self.assertEqual(seen(state), shown[0])
        state.forget(0)
        state, shown = self.grown(28)
        state.forget(40)
        state.rewind(40)
        self.assertEqual((seen(state), state.mark()), (shown[40], 40))
        self.refused(state, state.rewind, 39)
        state.use(88)
        self.assertEqual(state.mark(), 41)
        state.rewind(40)
        self.assertEqual(seen(state), shown[40])

    def test_books_agree_with_the_outputs(self):
        source = random.Random(29)
        state = State([(3, 50), (4, 60)], 7)
        for _ in range(800):
            if source.random() < 0.1:
                state.rewind(source.randint(max(0, state.mark() - 12), state.mark()))
            change(state, source)
            outputs = [(ref, state.output(ref)) for ref in state.unspent()]
            for address in ADDRESSES:
                self.assertEqual(state.books.refs_of(address), [ref for ref, output in outputs if output.address == address])
                self.assertEqual(state.books.balance(address),
                                 total([output.bundle for _, output in outputs if output.address == address]))
            self.assertEqual(state.books.supply(), total([output.bundle for _, output in outputs]))


if __name__ == "__main__":
    unittest.main()
