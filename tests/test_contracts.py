"""keptcoin/wallet/contracts.py (13.8, 13.9)."""

import itertools
import random
import unittest

from keptcoin.amounts.bundle import Bundle
from keptcoin.errors import KeptError, WrongClaim
from keptcoin.rules.apply import apply_transaction
from keptcoin.rules.needs import purposes
from keptcoin.rules.phase_one import difference
from keptcoin.scripts.facts import Facts
from keptcoin.scripts.script import Script, is_validator_text
from keptcoin.state.state import State
from keptcoin.tx.output import Output
from keptcoin.tx.params import Params
from keptcoin.wallet.build import build
from keptcoin.wallet.contracts import counter, locked_until, one_time, some_of
from tests.helpers import Checks
from tests.ledger import COIN, key_output, script_output, some_tx
from tests.play import claimed_well

ENDS = [0, 1, 9, 10 ** 9 - 1, 10 ** 9]


def row(ref=None, address=("key", 1), bundle=(), datum=()):
    return (ref, address, Bundle(bundle), tuple(datum))


class ContractCase(Checks, unittest.TestCase):
    def setUp(self):
        self.scripts = {}

    def good(self, text):
        """The text is a validator that is not too long and does not take too many steps."""
        self.assertIsInstance(text, str)
        self.assertTrue(all([" " <= char <= "~" and ord(char) != 37 for char in text]))
        self.assertLessEqual(len(text), 400)
        self.assertTrue(is_validator_text(text))
        self.assertLessEqual(Script(text).bound(8), 5000)
        return text

    def tells(self, text, verdict, **facts):
        """This is the verdict on the facts, for which the script asks its own text."""
        facts = Facts(**{"own": text, **facts})
        if text not in self.scripts:
            self.scripts[text] = Script(text)
        script = self.scripts[text]
        self.assertIs(script.verdict(facts), verdict)
        self.assertIs(script.plain_verdict(facts), verdict)


class OneTimeTest(ContractCase):
    def test_ends_of_the_ranges(self):
        for number, index in itertools.product(ENDS, range(8)):
            text = self.good(one_time(number, index))
            self.tells(text, True, spent=[row((number, index))])
            for ref in [(number, index + 1), (number, index - 1), (number + 1, index), (number - 1, index)]:
                self.tells(text, False, spent=[row(ref)])

    def test_places(self):
        text = one_time(3, 5)
        others = [row((3, at)) for at in range(5)] + [row((5, 3)), row((8, 8))]
        self.tells(text, False)
        self.tells(text, False, spent=others)
        for at in range(8):
            self.tells(text, True, spent=[*others[:at], row((3, 5)), *others[at:]])
        # It has to be spent: looking at it, making one and guarding one do not count.
        self.tells(text, False, looked=[row((3, 5))], made=[row((3, 5))], here=row((3, 5)), datum=[3, 5])

    def test_one_transaction_at_most(self):
        state = State([(4, 1000)] * 4, 0)
        text = one_time(0, 2)
        told = dict(fee=200, signers=[4], pledge=[(0, 3)], data=[(("mint", text), [])])
        for quantity in (1, 7, 10 ** 12):
            tx = some_tx(spends=[(0, 0)], mint=[((text, 1), quantity)], makes=[key_output(4, 800, ((text, 1), quantity))], **told)
            self.fails(WrongClaim, ((("mint", text), False),), apply_transaction, state, tx, Params())
        tx = some_tx(spends=[(0, 2)], mint=[((text, 1), 7)], makes=[key_output(4, 800, ((text, 1), 7))], **told)
        self.assertIs(apply_transaction(state, tx, Params()), True)
        burn = some_tx(number=2, spends=[(1, 0)], mint=[((text, 1), -1)], makes=[key_output(4, 600, ((text, 1), 6))], **told)
        self.fails(WrongClaim, ((("mint", text), False),), apply_transaction, state, burn, Params())


class LockedUntilTest(ContractCase):
    def test_ends_of_the_ranges(self):
        for slot, key in itertools.product(ENDS, ENDS):
            text = self.good(locked_until(slot, key))
            for begins, signers in itertools.product([slot - 1, slot, slot + 1, 0, 10 ** 9], [[], [key], [key + 1], [5, key, 6]]):
                self.tells(text, begins >= slot and key in signers, begins=begins, ends=10 ** 9, signers=signers)

    def test_only_the_begin_counts(self):
        text = locked_until(50, 4)
        self.tells(text, False, begins=49, ends=50, signers=[4])
        self.tells(text, True, begins=50, ends=50, signers=[4])
        self.tells(text, False, begins=50, ends=90, signers=[40, 5])
        self.tells(text, True, begins=50, ends=90, signers=[40, 5, 4, 7])

    def test_as_a_lock(self):
        state = State([(4, 1000)], 0)
        text = locked_until(5, 7)
        state.add_output((9, 0), script_output(text, 300))
        request = dict(key=4, number=1, pays=[], also=[(9, 0)], data=[(("spend", (9, 0)), [])])
        verdicts = ((("spend", (9, 0)), False),)
        for slot in range(8):
            state.set_clock(slot, 0)
            for signers, begins in [([7], 4), ([8], slot), ([], slot), ([7], 0)]:
                if begins <= slot:
                    with self.assertRaises(KeptError) as caught:
                        build(state, Params(), signers=signers, begins=begins, **request)
                    self.assertEqual(caught.exception.what, verdicts)
            if slot >= 5:
                tx = build(state, Params(), signers=[7], begins=5, **request)
                self.assertEqual(tx.spends, ((9, 0),))


class SomeOfTest(ContractCase):
    def test_every_count(self):
        source = random.Random(1)
        for many, needed in itertools.product(range(9), range(9)):
            for keys in ([*range(many)], [10 ** 9 - at for at in range(many)]):
                text = self.good(some_of(keys, needed))
                for signing in range(many + 1):
                    signers = source.sample(keys, signing)
                    self.tells(text, signing >= needed, signers=signers)
                    # Other keys do not count.
                    more = [77, 78, 79, 80, 81, 82, 83, 84][:8 - signing]
                    self.tells(text, signing >= needed, signers=source.sample(signers + more, 8))

    def test_every_set_of_signers(self):
        text = some_of([4, 9, 2, 0], 2)
        for signers in itertools.product([0, 2, 4, 9, 40], repeat=2):
            self.tells(text, len(set(signers) & {0, 2, 4, 9}) >= 2, signers=signers)
        for count in range(5):
            for signers in itertools.combinations([0, 2, 4, 9], count):
                self.tells(text, count >= 2, signers=signers)

    def test_one_key_that_signs_twice(self):
        self.tells(some_of([4, 5], 2), False, signers=[4, 4, 4])

    def test_list_stays(self):
        keys = [4, 5]
        some_of(keys, 1)
        self.assertEqual(keys, [4, 5])


def counted(number, index, facts):
    """The verdict of a counter once more."""
    token = (facts.own, 0)

    def carried(n):
        return any([address == ("script", facts.own) and bundle.of(token) == 1 and datum == (n,)
                    for _, address, bundle, datum in facts.made])

    if facts.here is not None:
        if facts.here[2].of(token) != 1 or facts.mint.of(token) != 0:
            return False
        return carried(facts.datum[0] + 1) if facts.datum else "missing"
    return (number, index) in [spent[0] for spent in facts.spent] and facts.mint.of(token) == 1 and carried(0)


class CounterTest(ContractCase):
    def carrying(self, text, n, many=1, address=None, datum=None):
        return row(None, ("script", text) if address is None else address, [(COIN, 50), ((text, 0), many)],
                   (n,) if datum is None else datum)

    def test_ends_of_the_ranges(self):
        for number, index in itertools.product(ENDS, range(8)):
            text = self.good(counter(number, index))
            facts = dict(mint=[((text, 0), 1)], made=[self.carrying(text, 0)])
            self.tells(text, True, spent=[row((number, index))], **facts)
            for ref in [(number, index + 1), (number, index - 1), (number + 1, index), (number - 1, index)]:
                self.tells(text, False, spent=[row(ref)], **facts)

    def test_first_transaction(self):
        text = counter(3, 5)
        good = dict(spent=[row((8, 1)), row((3, 5))], mint=[((text, 0), 1)], made=[row(), self.carrying(text, 0)])
        self.tells(text, True, **good)
        self.tells(text, True, **{**good, "made": [self.carrying(text, 0), self.carrying(text, 4), row()]})
        self.tells(text, True, **{**good, "mint": [((text, 0), 1), ((text, 1), 7), (("true", 0), 3)]})
        self.tells(text, True, **{**good, "looked": [row((3, 5))], "datum": [7], "redeemer": [8], "signers": [9]})
        self.tells(text, False, **{**good, "spent": [row((8, 1))], "looked": [row((3, 5))]})
        for mint in ([], [((text, 0), 2)], [((text, 0), -1)], [((text, 1), 1)], [(("true", 0), 1)], [((text, 0), 10 ** 15)]):
            self.tells(text, False, **{**good, "mint": mint})
        for made in (self.carrying(text, 1), self.carrying(text, -1), self.carrying(text, 0, many=2), self.carrying(text, 0, many=0),
                     self.carrying(text, 0, many=-1), self.carrying(text, 0, address=("key", 0)),
                     self.carrying(text, 0, address=("script", counter(3, 4))), self.carrying(text, 0, datum=[]),
                     self.carrying(text, 0, datum=[0, 0]), self.carrying(text, 0, datum=[0] * 8)):
            self.tells(text, False, **{**good, "made": [row(), made]})
        self.tells(text, False, **{**good, "made": []})
        # No output carries on if one has the datum and another one has the token.
        self.tells(text, False, **{**good, "made": [self.carrying(text, 0, many=0), self.carrying(text, 1)]})

    def test_later_transactions(self):
        text = counter(3, 5)
        for n in (0, 1, 7, -1, -5, 10 ** 15 - 2, -10 ** 15):
            here = row((9, 2), ("script", text), [((text, 0), 1)], [n])
            good = dict(here=here, datum=[n], spent=[row((8, 1)), here], made=[row(), self.carrying(text, n + 1)])
            self.tells(text, True, **good)
            self.tells(text, True, **{**good, "datum": [n, 5]})
            self.tells(text, True, **{**good, "mint": [((text, 1), 5)]})
            for mint in ([((text, 0), 1)], [((text, 0), -1)], [((text, 0), 10 ** 15)]):
                self.tells(text, False, **{**good, "mint": mint})
            for many in (0, 2, -1, 10 ** 15, -10 ** 15):
                other = row((9, 2), ("script", text), [((text, 0), many)], [n])
                self.tells(text, False, **{**good, "here": other})
            for made in (self.carrying(text, n), self.carrying(text, n + 1, many=2), self.carrying(text, n + 1, many=0),
                         self.carrying(text, n + 1, address=("key", 0)), self.carrying(text, n + 1, datum=[]),
                         self.carrying(text, n + 1, datum=[n + 1, n + 1]), self.carrying(text, n + 1, address=("script", "true"))):
                self.tells(text, False, **{**good, "made": [made]})
            if n + 2 < 10 ** 15:
                self.tells(text, False, **{**good, "made": [self.carrying(text, n + 2)]})

    def test_empty_datum(self):
        text = counter(3, 5)
        here = row((9, 2), ("script", text), [((text, 0), 1)])
        for made in ([], [row()], [self.carrying(text, 0)], [self.carrying(text, 1)] * 8):
            self.tells(text, "missing", here=here, datum=[], made=made)
            self.tells(text, False, here=here, datum=[], made=made, mint=[((text, 0), 1)])
            self.tells(text, False, here=row((9, 2)), datum=[], made=made)

    def test_made_up_facts(self):
        source = random.Random(6)
        text = counter(3, 5)
        seen = {}
        script = Script(text)
        for _ in range(3000):
            facts = self.some_facts(source, source.choice([text, text, "x"]))
            verdict = counted(3, 5, facts)
            self.assertIs(script.verdict(facts), verdict)
            self.assertIs(script.plain_verdict(facts), verdict)
            seen[verdict, facts.here is None] = seen.get((verdict, facts.here is None), 0) + 1
        for key in [(True, True), (True, False), (False, True), (False, False), ("missing", False)]:
            self.assertGreater(seen.get(key, 0), 20, key)

    def some_facts(self, source, own):
        def some_row(ref):
            token = source.choice([0, 1, 1, 1, 2, -1])
            address = source.choice([("script", own)] * 3 + [("script", "y"), ("key", 3)])
            return row(ref, address, [(COIN, 5), ((own, 0), token), ((own, 1), 1)],
                       source.choice([(), (0,), (0,), (1,), (1,), (1, 1), (0, 5), (-1,)]))

        made = [some_row(None) for _ in range(source.choice([0, 1, 2, 8]))]
        spent = [some_row(ref) for ref in source.sample([(3, 5), (3, 4), (2, 5), (5, 3)], source.choice([1, 2, 3]))]
        mint = source.choice([[], [], [((own, 0), 1)], [((own, 0), 1)], [((own, 0), -1)], [((own, 1), 1)]])
        here = source.choice([None, some_row((7, 0))])
        return Facts(own=own, made=made, spent=spent, mint=mint, here=here, datum=() if here is None else here[3],
                     begins=source.randint(0, 9), signers=source.sample(range(5), 2))


class CounterInALedgerTest(Checks, unittest.TestCase):
    """13.9: from the first transaction on over several ones."""

    def setUp(self):
        self.params = Params()
        self.text = counter(0, 3)
        self.token = (self.text, 0)
        self.state = State([(4, 5000)] * 20, 0)
        self.number = 0
        # The reference of the output with the token, and how many approved transactions spent it.
        self.ref, self.n = None, 0

    def tx(self, spends, *rows, **fields):
        """A transaction that makes outputs, given as (address, token, datum), and one with the rest at a key."""
        self.number += 1
        makes = [Output(address, [(COIN, 100), (self.token, token)], datum) for address, token, datum in rows]
        fields = {"number": self.number, "spends": spends, "signers": [4], "fee": 400, "makes": makes, **fields}
        draft = some_tx(**fields)
        needed = purposes(self.state, draft)
        pledge = [ref for ref in self.state.books.refs_of(("key", 4)) if ref not in spends and ref != (0, 3)
                  and self.state.output(ref).bundle.coin >= 600 and not self.state.output(ref).bundle.tokens()][:1]
        rest = difference(self.state, draft, self.params)
        return some_tx(**{**fields, "makes": [*makes, Output(("key", 4), rest)] if rest else makes,
                          "data": [(purpose, []) for purpose in needed], "pledge": pledge if needed else []})

    def home(self, n, token=1):
        return (("script", self.text), token, [n])

    def goes_by(self, tx):
        mark = self.state.mark()
        self.assertIs(apply_transaction(self.state, tx, self.params), True)
        if self.ref in tx.spends:
            self.n += 1
        found = [(tx.number, at) for at, output in enumerate(tx.makes) if self.token in output.bundle]
        if found:
            self.ref = found[0]
        self.check()
        return mark

    def check(self):
        """What is promised of the token."""
        holders = [ref for ref in self.state.unspent() if self.token in self.state.output(ref).bundle]
        self.assertEqual(holders, [] if self.ref is None else [self.ref])
        if holders:
            output = self.state.output(self.ref)
            self.assertEqual((output.address, output.bundle.of(self.token), output.datum), (("script", self.text), 1, (self.n,)))

    def refused(self, tx):
        """The transaction does not go by as approved; with the claim that it is not, it changes nothing of the token."""
        mark = self.state.mark()
        with self.assertRaises(WrongClaim):
            apply_transaction(self.state, tx, self.params)
        self.check()
        other = some_tx(**{**vars(tx), "approved": False})
        self.assertIs(apply_transaction(self.state, other, self.params), False)
        self.check()
        self.state.rewind(mark)

    def test_what_must_not_begin(self):
        one = {"mint": [(self.token, 1)]}
        self.refused(self.tx([(0, 0)], self.home(0), **one))
        self.refused(self.tx([(0, 0)], self.home(0), looks=[(0, 3)], **one))
        self.refused(self.tx([(0, 3)], self.home(0), mint=[(self.token, 2)]))
        self.refused(self.tx([(0, 3)], self.home(0), self.home(0), mint=[(self.token, 2)]))
        self.refused(self.tx([(0, 3)], self.home(0, token=2), mint=[(self.token, 2)]))
        self.refused(self.tx([(0, 3)], self.home(1), **one))
        self.refused(self.tx([(0, 3)], (("script", self.text), 1, []), **one))
        self.refused(self.tx([(0, 3)], (("script", self.text), 1, [0, 0]), **one))
        self.refused(self.tx([(0, 3)], (("key", 4), 1, [0]), **one))
        self.refused(self.tx([(0, 3)], (("script", "true"), 1, [0]), **one))
        self.refused(self.tx([(0, 3)], self.home(0, token=0), **one))
        self.refused(self.tx([(0, 3)], mint=[((self.text, 1), 1)]))
        # The output is spent without the token, so it never comes to be.
        self.goes_by(self.tx([(0, 3)]))
        self.refused(self.tx([(1, 0)] if self.state.output((1, 0)) else [(0, 0)], self.home(0), **one))

    def test_several_transactions(self):
        self.goes_by(self.tx([(0, 3)], self.home(0), mint=[(self.token, 1)]))
        for n in range(5):
            payer = [ref for ref in self.state.books.refs_of(("key", 4)) if self.state.output(ref).bundle.coin >= 4000][-1]
            spends = [payer, self.ref] if n % 2 else [self.ref, payer]
            home = self.home(n + 1)
            for rows in ([self.home(n)], [self.home(n + 2)], [(("key", 4), 1, [n + 1])], [(("script", self.text), 1, [])],
                         [(("script", self.text), 1, [n + 1, n + 1])], [(("script", "true"), 1, [n + 1])],
                         [self.home(n + 1, token=0)], [self.home(n + 1, token=0), self.home(n)], []):
                self.refused(self.tx(spends, *rows))
            self.refused(self.tx(spends, mint=[(self.token, -1)]))
            self.refused(self.tx(spends, self.home(n + 1, token=0), mint=[(self.token, -1)]))
            self.refused(self.tx(spends, home, home, mint=[(self.token, 1)]))
            self.refused(self.tx(spends, self.home(n + 1, token=2), mint=[(self.token, 1)]))
            # Another one cannot be minted beside it.
            self.refused(self.tx([payer], self.home(0), mint=[(self.token, 1)]))
            self.refused(self.tx([payer], self.home(n + 1), looks=[self.ref], mint=[(self.token, 1)]))
            # What does not touch the token goes by.
            self.goes_by(self.tx([payer], self.home(n + 1, token=0)))
            stray = (self.number, 0)
            # An output at the address of the script without the token stays there for ever.
            self.refused(self.tx([stray, (self.number, 1)], self.home(n + 2, token=0)))
            spends = [ref if ref != payer else (stray[0], 1) for ref in spends]
            self.refused(self.tx([*spends, stray], home))
            before = self.goes_by(self.tx(spends, (("key", 4), 0, [9]), home) if n == 3 else self.tx(spends, home))
            if n == 2:
                # It counts the transactions of the current branch alone.
                self.state.rewind(before)
                self.n, self.ref = 2, spends[0] if spends[0] != (stray[0], 1) else spends[1]
                self.check()
                self.goes_by(self.tx(spends, home))
        self.assertEqual(self.n, 5)

    def test_made_up_transactions(self):
        source = random.Random(9)
        approved, longest = 0, 0
        for _ in range(6):
            self.setUp()
            for _ in range(50):
                approved += self.step(source)
            longest = max(longest, self.n)
        self.assertGreater(approved, 40)
        self.assertGreater(longest, 3)

    def step(self, source):
        """Applies some transaction with the claim that holds, unless it is refused for another reason."""
        rich = [ref for ref in self.state.books.refs_of(("key", 4)) if self.state.output(ref).bundle.coin >= 1500]
        payer = source.choice([ref for ref in rich if ref != (0, 3)])
        special = (0, 3) if self.ref is None else self.ref
        spends = [ref for ref in source.choice([[payer], [payer, special], [special, payer], [payer, (0, 3)]])
                  if self.state.output(ref) is not None]
        n = source.choice([self.n, self.n + 1, self.n + 1, self.n + 1, 0]) if self.ref else source.choice([0, 0, 1])
        rows = source.choice([[], [self.home(n)], [self.home(n)], [self.home(n)], [self.home(n), self.home(n, token=0)],
                              [(("key", 4), 1, [n])], [self.home(n, token=2)]])
        held = sum([self.state.output(ref).bundle.of(self.token) for ref in spends])
        change = sum([token for _, token, _ in rows]) - held
        mint = [(self.token, change)] if change else []
        tx = claimed_well(self.state, self.params, self.tx(spends, *rows, mint=mint))
        mark = self.state.mark()
        try:
            approved = apply_transaction(self.state, tx, self.params)
        except KeptError:
            return 0
        if not approved and source.random() < 0.9:
            # Otherwise nothing to pledge would be left soon.
            self.state.rewind(mark)
        if approved:
            self.n += 1 if self.ref in tx.spends else 0
            found = [(tx.number, at) for at, output in enumerate(tx.makes) if self.token in output.bundle]
            self.ref = found[0] if found else self.ref
        self.check()
        return 1 if approved else 0


if __name__ == "__main__":
    unittest.main()
