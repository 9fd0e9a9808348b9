"""A second statement of what transactions, epochs, blocks, chains and nodes do.

The model takes the claims of transactions for granted and refuses nothing. The slow chain and the slow node refuse what
the rules of blocks and of the pool refuse; for the rest they rest on the program's own functions for one state.
"""

from keptcoin import errors
from keptcoin.chain.apply import apply_block
from keptcoin.chain.block import Block
from keptcoin.epochs.clock import advance
from keptcoin.rules.apply import apply_transaction
from keptcoin.state.state import State

COIN = ("", 0)


def added(rows, others, sign=1):
    """The rows of the sum of two bundles, or of their difference."""
    sums = dict(rows)
    for asset, quantity in others:
        sums[asset] = sums.get(asset, 0) + sign * quantity
    return tuple(sorted([(asset, quantity) for asset, quantity in sums.items() if quantity]))


def coin_in(rows):
    return dict(rows).get(COIN, 0)


class Model:
    """The state of a ledger as dicts and numbers."""

    def __init__(self, grants, reserve):
        self.outputs = {(0, at): (("key", key), ((COIN, coin),), ()) for at, (key, coin) in enumerate(grants)}
        self.accounts = {}
        self.stakes = ()
        self.fees, self.reserve, self.treasury, self.slot, self.epoch = 0, reserve, 0, 0, 0
        self.used = ()

    @staticmethod
    def of_state(state):
        """The model of a state."""
        model = Model([], 0)
        outputs, accounts, model.stakes, *pots, used = state.picture()
        model.outputs = dict(outputs)
        model.accounts = {key: (deposit, reward) for key, deposit, reward in accounts}
        model.fees, model.reserve, model.treasury, model.slot, model.epoch = pots
        model.used = used
        return model

    def picture(self):
        accounts = tuple([(key, *self.accounts[key]) for key in sorted(self.accounts)])
        return (tuple(sorted(self.outputs.items())), accounts, self.stakes, self.fees, self.reserve, self.treasury,
                self.slot, self.epoch, self.used)

    def total(self):
        rows = ()
        for _, held, _ in self.outputs.values():
            rows = added(rows, held)
        coin = self.fees + self.reserve + self.treasury + sum([sum(pair) for pair in self.accounts.values()])
        return added(rows, [(COIN, coin)])

    def apply(self, picture, params):
        """Applies a transaction, whose claim is right."""
        number, spends, _, pledge, makes, _, fee, _, _, _, _, deeds, draws, approved = picture
        self.used = tuple(sorted([*self.used, number]))
        if not approved:
            self.fees += sum([coin_in(self.outputs.pop(ref)[1]) for ref in pledge])
            return
        for ref in spends:
            del self.outputs[ref]
        for at, output in enumerate(makes):
            self.outputs[number, at] = output
        for key, amount in draws:
            deposit, reward = self.accounts[key]
            self.accounts[key] = (deposit, reward - amount)
        for word, key in deeds:
            if word == "join":
                self.accounts[key] = (params.deposit, 0)
            else:
                del self.accounts[key]
        self.fees += fee

    def current_stakes(self):
        rows = []
        for key in sorted(self.accounts):
            held = [coin_in(rows) for address, rows, _ in self.outputs.values() if address == ("key", key)]
            rows.append((key, sum(held) + self.accounts[key][1]))
        return tuple([row for row in rows if row[1]])

    def end_epoch(self, params):
        grown = self.reserve * params.share // 1000
        pot = self.fees + grown
        eligible = [(key, coin) for key, coin in self.stakes if key in self.accounts]
        whole = sum([coin for _, coin in eligible])
        left = pot
        for key, coin in eligible:
            given = pot * coin // whole if whole else 0
            deposit, reward = self.accounts[key]
            self.accounts[key] = (deposit, reward + given)
            left -= given
        self.treasury += left
        self.reserve -= grown
        self.fees = 0
        self.stakes = self.current_stakes()

    def advance(self, slot, params):
        while self.epoch < slot // params.epoch_length:
            self.end_epoch(params)
            self.epoch += 1
        self.slot = slot

    def apply_block(self, picture, params):
        _, _, slot, txs = picture
        self.advance(slot, params)
        for tx in txs:
            self.apply(tx, params)


def played(grants, reserve, blocks, params):
    """The model behind blocks that are applied from the first day on."""
    model = Model(grants, reserve)
    for block in blocks:
        model.apply_block(block.picture(), params)
    return model


class SlowChain:
    """A chain that knows nothing but its blocks and plays all of them from the first day on whenever it is asked."""

    def __init__(self, params, grants, reserve):
        self.params, self.grants, self.reserve = params, grants, reserve
        self.known, self.barred, self.tip = {}, set(), 0

    def path(self, number):
        return [*self.path(self.known[number].parent), number] if number else [0]

    def state(self):
        """The state at the tip."""
        state = State(self.grants, self.reserve)
        for number in self.path(self.tip)[1:]:
            apply_block(state, self.known[number], self.params)
        return state

    def refusal(self, block):
        """The error and its item for a block that does not become known, otherwise None."""
        number, parent = block.number, block.parent
        if not 1 <= number <= 10 ** 9:
            return (errors.BadBlockNumber, number)
        if number in self.known:
            return (errors.KnownBlock, number)
        if number in self.barred:
            return (errors.BarredBlock, number)
        if parent != 0 and parent not in self.known:
            return (errors.UnknownParent, parent)
        start = self.known[parent].slot if parent else 0
        if block.slot not in range(start + 1, start + 4 * self.params.epoch_length + 1):
            return (errors.BadSlot, block.slot)
        if len(block.txs) > 20:
            return (errors.TooManyTransactions, number)
        if len(self.common(parent)) - 1 < max(0, len(self.path(self.tip)) - 1 - self.params.depth):
            return (errors.TooDeep, parent)
        return None

    def common(self, number):
        """The numbers that are both on the branch of a number and on the current branch."""
        return [one for one in self.path(number) if one in self.path(self.tip)]

    def offer(self, block):
        """The answer, or the pair of an error and its item."""
        refusal = self.refusal(block)
        if refusal:
            return refusal
        self.known[block.number] = block
        old, new = self.path(self.tip), self.path(block.number)
        if len(new) <= len(old):
            return ("kept", ())
        state = State(self.grants, self.reserve)
        for number in new[1:]:
            try:
                apply_block(state, self.known[number], self.params)
            except errors.BadBlock as e:
                self.drop(number)
                return (errors.BadBlock, e.what)
        left = tuple([number for number in old if number not in new])
        self.tip = block.number
        return ("switched", left) if left else ("extended", ())

    def drop(self, number):
        gone = [other for other in self.known if number in self.path(other)]
        self.barred |= set(gone)
        for other in gone:
            del self.known[other]

    def picture(self):
        return (tuple(self.path(self.tip)), self.state().picture(), tuple(sorted(self.known)), tuple(sorted(self.barred)))


class SlowNode:
    """A node that plays its chain from the first day on whenever it needs a state."""

    def __init__(self, params, grants, reserve):
        self.chain = SlowChain(params, grants, reserve)
        self.waiting = []

    def fitted(self, state, txs, many):
        chosen = []
        for tx in txs:
            try:
                if len(chosen) < many:
                    apply_transaction(state, tx, self.chain.params)
                    chosen.append(tx)
            except errors.KeptError:
                pass
        return chosen

    def submit(self, tx):
        """The answer, or the pair of an error and its item."""
        if tx.number in [other.number for other in self.waiting]:
            return (errors.AlreadyPending, tx.number)
        if len(self.waiting) >= 30:
            return (errors.PoolFull, None)
        state = self.chain.state()
        assert len(self.fitted(state, self.waiting, 30)) == len(self.waiting)
        try:
            approved = apply_transaction(state, tx, self.chain.params)
        except errors.KeptError as e:
            return (e.__class__, e.what)
        self.waiting.append(tx)
        return approved

    def offer(self, block):
        """The word, or the pair of an error and its item."""
        answer = self.chain.offer(block)
        if answer[0] not in ("extended", "switched"):
            return "kept" if answer[0] == "kept" else answer
        freed = [tx for number in answer[1] for tx in self.chain.known[number].txs]
        self.waiting = self.fitted(self.chain.state(), freed + self.waiting, 30)
        return answer[0]

    def make_block(self, number, slot):
        """The picture of a block, or the pair of an error and its item."""
        refusal = self.chain.refusal(Block(number=number, parent=self.chain.tip, slot=slot))
        if refusal:
            return refusal
        state = self.chain.state()
        advance(state, slot, self.chain.params)
        txs = self.fitted(state, self.waiting, 20)
        return (number, self.chain.tip, slot, tuple([tx.picture() for tx in txs]))

    def picture(self):
        return (self.chain.picture(), tuple([tx.picture() for tx in self.waiting]))
