"""What holds over the whole program (0.2, 0.5, 0.6, and 6.8, 8.5, 9.6, 10.5, 11.2, 13.7, 13.9 on a node)."""

import random
import unittest

from keptcoin import errors
from keptcoin.chain.apply import apply_block
from keptcoin.chain.block import Block
from keptcoin.errors import KeptError
from keptcoin.journal.recover import mended, recover
from keptcoin.node.node import Node
from keptcoin.rules.apply import apply_transaction
from keptcoin.rules.needs import facts_of, purposes, script_text
from keptcoin.rules.phase_two import verdicts
from keptcoin.scripts.script import Script
from keptcoin.state.state import State
from keptcoin.tx.params import Params
from keptcoin.wallet.build import build
from keptcoin.wallet.contracts import counter
from tests.helpers import Checks
from tests.ledger import COIN, key_output, script_output
from tests.model import SlowNode, added, played
from tests.play import GRANTS, KEYS, RESERVE, Player

FIRST_COIN = sum([coin for _, coin in GRANTS]) + RESERVE


def minted_by(blocks, params):
    """The rows of what the approved transactions of these blocks minted less what they burned."""
    state = State(GRANTS, RESERVE)
    rows = ()
    for block in blocks:
        approved = apply_block(state, block, params)
        for tx, good in zip(block.txs, approved, strict=True):
            rows = added(rows, tx.mint.rows) if good else rows
    return rows


class Game:
    """Made-up calls on a node, with what is to be known of it behind each turn."""

    def __init__(self, seed):
        self.source = random.Random(seed)
        self.params = Params(depth=self.source.choice([0, 2, 4, 4]), epoch_length=self.source.choice([2, 4, 10]),
                             fee_step=self.source.choice([2, 40]), share=self.source.choice([0, 50, 1000]))
        self.node = Node(params=self.params, grants=GRANTS, reserve=RESERVE)
        self.player = Player(self.source, self.node, self.params)


class AlwaysTest(Checks, unittest.TestCase):
    def holds(self, node, params):
        """0.2."""
        state = node.state
        held = state.books.supply().tokens()
        total = state.total()
        self.assertEqual(total.coin, FIRST_COIN)
        self.assertEqual(total.tokens(), held)
        blocks = node.chain.blocks()
        self.assertEqual(held.rows, minted_by(blocks, params))
        model = played(GRANTS, RESERVE, blocks, params)
        self.assertEqual(state.picture(), model.picture())
        self.assertEqual(total.rows, model.total())

    def pool_holds(self, node, params):
        """11.12."""
        state = State(GRANTS, RESERVE)
        for block in node.chain.blocks():
            apply_block(state, block, params)
        numbers = [tx.number for tx in node.waiting()]
        self.assertLessEqual(len(numbers), 30)
        self.assertEqual(len(numbers), len(set(numbers)))
        for tx in node.waiting():
            before = state.total()
            approved = apply_transaction(state, tx, params)
            self.assertEqual(state.total() - before, tx.mint if approved else before - before)

    def test_games(self):
        seen = {}
        for seed in range(8):
            game = Game(seed)
            for _ in range(45):
                game.player.turn()
                self.holds(game.node, game.params)
                self.pool_holds(game.node, game.params)
            for answer in game.player.answers:
                key = answer if isinstance(answer, (bool, str)) else answer[0]
                seen[key] = seen.get(key, 0) + 1
        for outcome in (True, False, "kept", "extended", "switched", errors.BadBlock, errors.AlreadyPending, errors.WrongClaim):
            self.assertGreater(seen.get(outcome, 0), 2, outcome)

    def test_games_hold_all_sorts_of_transactions(self):
        seen = {}
        for seed in range(8):
            game = Game(seed)
            for _ in range(45):
                game.player.turn()
            state = State(GRANTS, RESERVE)
            for block in game.node.chain.blocks():
                for tx, approved in zip(block.txs, apply_block(state, block, game.params), strict=True):
                    quantities = [quantity for _, quantity in tx.mint.rows]
                    for name, there in [("approved", approved), ("unapproved", not approved), ("draw", tx.draws),
                                        ("join", ("join" in dict(tx.deeds))), ("leave", ("leave" in dict(tx.deeds))),
                                        ("mint", approved and max(quantities, default=0) > 0),
                                        ("burn", approved and min(quantities, default=0) < 0),
                                        ("spend by script", approved and tx.data and tx.data[0][0][0] == "spend")]:
                        seen[name] = seen.get(name, 0) + (1 if there else 0)
        for name, count in seen.items():
            self.assertGreater(count, 0, name)

    def test_refused_calls_change_nothing(self):
        for seed in range(20, 24):
            game = Game(seed)
            node, player = game.node, game.player
            original = player.call

            def call(word, item):
                before, mark, journal = node.picture(), node.state.mark(), node.journal
                picture = item.picture()
                answer = original(word, item)
                self.assertEqual(item.picture(), picture)
                self.assertTrue(node.journal.startswith(journal))
                self.assertEqual(node.journal.count("\n"), journal.count("\n") + 1)
                if isinstance(answer, tuple):
                    self.assertEqual(node.state.mark(), mark)
                    # A bad block bars numbers; for the rest the node is as before.
                    count = 2 if answer[0] is errors.BadBlock else 4
                    self.assertEqual((node.picture()[0][:count], node.picture()[1]), (before[0][:count], before[1]))
                return answer

            player.call = call
            for _ in range(30):
                player.turn()

    def test_errors_and_their_items(self):
        for seed in range(30, 36):
            game = Game(seed)
            slow = SlowNode(game.params, GRANTS, RESERVE)
            for _ in range(25):
                game.player.turn()
            for (word, item), answer in zip(game.player.calls, game.player.answers, strict=True):
                self.assertEqual(slow.submit(item) if word == "submit" else slow.offer(item), answer)
                if isinstance(answer, tuple):
                    families = (errors.ShapeError, errors.RuleError, errors.ChainError, errors.PoolError)
                    self.assertEqual(len([family for family in families if issubclass(answer[0], family)]), 1)
            self.assertEqual(game.node.picture(), slow.picture())

    def test_order_of_calls_on_two_nodes(self):
        games = [Game(40), Game(41)]
        alone = [Game(40), Game(41)]
        for _ in range(30):
            for game in games:
                game.player.turn()
        for game, other in zip(games, alone):
            for _ in range(30):
                other.player.turn()
            self.assertEqual((game.node.picture(), game.node.journal), (other.node.picture(), other.node.journal))


class RecoveryTest(unittest.TestCase):
    def test_every_line_of_a_journal(self):
        for seed in range(50, 53):
            game = Game(seed)
            for _ in range(30):
                game.player.turn()
            node = Node(params=game.params, grants=GRANTS, reserve=RESERVE)
            cut = 0
            for (word, item), answer in zip(game.player.calls, game.player.answers, strict=True):
                self.recovers(game, cut, node)
                player = Player(game.source, node, game.params)
                self.assertEqual(player.call(word, item), answer)
                cut = len(node.journal)
            self.recovers(game, cut, game.node)
            self.assertEqual(node.picture(), game.node.picture())

    def recovers(self, game, cut, node):
        """The journal that is cut behind these lines, or in the next one, gives the node back."""
        journal = game.node.journal
        rest = len(journal[cut:].split("\n")[0])
        for end in sorted({cut, cut + rest // 2, cut + rest}):
            text = journal[:end]
            again = recover(text, params=game.params, grants=GRANTS, reserve=RESERVE)
            self.assertEqual((again.picture(), again.journal), (node.picture(), node.journal))
            self.assertEqual(mended(text), node.journal)

    def test_damaged_journals(self):
        source = random.Random(3)
        game = Game(60)
        for _ in range(20):
            game.player.turn()
        journal = game.node.journal
        for _ in range(60):
            at = source.randrange(len(journal))
            text = journal[:at] + source.choice(["", "7", "(", " ", "\n", "T", "~", "%"]) + journal[at + source.choice([0, 1]):]
            good = mended(text)
            self.assertTrue(text.startswith(good))
            node = recover(good, params=game.params, grants=GRANTS, reserve=RESERVE)
            self.assertEqual(node.journal, good)
            self.assertEqual(node.state.total().coin, FIRST_COIN)


class ScriptsTest(unittest.TestCase):
    def test_both_verdicts_agree(self):
        """6.8, on what the scripts of made-up transactions are told."""
        seen = {}
        for seed in range(70, 76):
            game = Game(seed)
            for _ in range(30):
                game.player.turn()
            for block in game.node.chain.blocks():
                for tx in block.txs:
                    for _, verdict in self.verdicts_of(game, tx, block):
                        seen[verdict] = seen.get(verdict, 0) + 1
        for verdict in (True, False, "fail", "missing"):
            self.assertGreater(seen.get(verdict, 0), 0, verdict)
        self.assertEqual([word for word in ("tired", "stuck") if word in seen], [])

    def verdicts_of(self, game, tx, block):
        """The verdicts of a transaction of the current branch, in the state in which it stands there."""
        state = State(GRANTS, RESERVE)
        for known in game.node.chain.blocks():
            if known.number == block.number:
                place = [other.number for other in block.txs].index(tx.number)
                apply_block(state, Block(number=1, parent=0, slot=block.slot, txs=block.txs[:place]), game.params)
                break
            apply_block(state, known, game.params)
        pairs = verdicts(state, tx)
        for purpose, verdict in pairs:
            facts = facts_of(state, tx, purpose)
            self.assertIs(Script(script_text(state, purpose)).plain_verdict(facts), verdict)
        return pairs


class WalletOnANodeTest(Checks, unittest.TestCase):
    def test_payments_go_into_blocks(self):
        """13.7: what is built for the state at the tip is approved by a node on which nothing waits."""
        source = random.Random(11)
        built = 0
        for seed in range(80, 84):
            game = Game(seed)
            for turn in range(40):
                if turn % 3:
                    game.player.turn()
                    continue
                node = game.node
                self.empty_pool(game)
                key = source.choice(KEYS)
                before, mark = node.picture(), node.state.mark()
                try:
                    tx = build(node.state, game.params, key=key, number=10 ** 8 + turn, signers=[other for other in KEYS if other != key],
                               pays=[key_output(source.choice(KEYS), source.choice([5, 200, 900]))])
                except KeptError as e:
                    self.assertIsInstance(e, (errors.NotEnough, errors.BadOutput))
                    continue
                self.assertEqual((node.picture(), node.state.mark()), (before, mark))
                self.assertIs(game.player.call("submit", tx), True)
                built += 1
        self.assertGreater(built, 30)

    def empty_pool(self, game):
        """Forges blocks until nothing waits, or what waits does not fit any more."""
        while game.node.waiting():
            slot = game.node.state.slot + 1
            game.player.call("offer", game.node.make_block(game.player.fresh(), slot))

    def test_counter_on_a_chain_that_switches(self):
        """13.9, for the approved transactions of the current branch."""
        params = Params(depth=50)
        node = Node(params=params, grants=GRANTS, reserve=RESERVE)
        text = counter(0, 0)
        token = (text, 0)
        numbers = iter(range(1, 1000))

        def step(state):
            """The transaction that begins the counter, or goes on with it."""
            refs = [ref for ref in state.unspent() if token in state.output(ref).bundle]
            if not refs:
                return build(state, params, key=0, number=next(numbers), also=[(0, 0)], mint=[(token, 1)],
                             pays=[script_output(text, 100, (token, 1), datum=[0])], data=[(("mint", text), [])])
            count = state.output(refs[0]).datum[0]
            return build(state, params, key=source.choice(KEYS), number=next(numbers), also=refs,
                         pays=[script_output(text, 100, (token, 1), datum=[count + 1])], data=[(("spend", refs[0]), [])])

        source = random.Random(1)
        slots, used, words = {0: 0}, iter(range(1, 1000)), []
        for _ in range(30):
            path = node.chain.path()
            back = min(source.choice([0, 0, 1, 2, 3]), len(path) - 1)
            parent = path[-1 - back]
            # A row that is longer than what stands above its parent makes the node switch.
            for _ in range(source.choice([1, back + 1])):
                state = State(GRANTS, RESERVE)
                for number in self.path_to(node, parent):
                    apply_block(state, node.chain.block(number), params)
                number = next(used)
                slots[number] = slots[parent] + 1
                txs = [step(state)] if source.random() < 0.6 else []
                words.append(node.offer(Block(number=number, parent=parent, slot=slots[number], txs=txs)))
                parent = number
                self.counts(node, token)
        self.assertGreater(words.count("switched"), 3)
        self.assertGreater(self.counts(node, token), 5)

    def path_to(self, node, number):
        path = []
        while number:
            path.append(number)
            number = node.chain.block(number).parent
        return path[::-1]

    def counts(self, node, token):
        """The number of the approved transactions that spent the token, which its output tells."""
        holders = [output for output in map(node.state.output, node.state.unspent()) if token in output.bundle]
        begun = [tx for tx in node.chain.transactions() if token in tx.mint]
        many = len([tx for tx in node.chain.transactions() if tx.data and tx.data[0][0][0] == "spend"])
        self.assertEqual([(output.address, output.bundle.of(token), output.datum) for output in holders],
                         [(("script", token[0]), 1, (many,)) for _ in begun])
        return many


if __name__ == "__main__":
    unittest.main()
