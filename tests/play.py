"""Made-up calls on a node: payments, draws, joins, leaves, mints, burns, scripts, wrong claims, bad blocks, switches."""

from keptcoin.chain.apply import apply_block
from keptcoin.chain.block import Block
from keptcoin.errors import KeptError
from keptcoin.rules.apply import apply_transaction
from keptcoin.rules.needs import purposes
from keptcoin.rules.phase_one import difference
from keptcoin.state.state import State
from tests.ledger import key_output, script_output, some_tx

KEYS = range(5)
GRANTS = [(key, coin) for coin in (3000, 700, 400) for key in KEYS]
RESERVE = 20000
# Policies and locks; some permit always, some never, some now and then.
TEXTS = ["true", "signed(2)", "true and fail", "head(redeemer) == 1", "begins < 9 or signed(1)", "minted(1) < 3",
         "head(data(here)) == 5", "homed(here) and guarding"]


def made_up_tx(source, state, params, number):
    """A transaction with what is unspent in the state, which mostly balances and mostly is not refused."""
    refs = state.unspent()
    spends = source.sample(refs, min(len(refs), source.choice([1, 1, 2, 3])))
    if not spends:
        return some_tx(number=number)
    pledges = [ref for ref in refs if state.output(ref).address[0] == "key" and not state.output(ref).bundle.tokens()
               and state.output(ref).bundle.coin >= 200]
    mint = []
    if source.random() < 0.25:
        mint.append(((source.choice(TEXTS), 1), source.choice([1, 2, 5])))
    held = [row for ref in spends for row in state.output(ref).bundle.tokens().rows]
    if held and source.random() < 0.4:
        mint.append((held[0][0], -1))
    deeds, draws = [], []
    if source.random() < 0.3:
        key = source.choice(KEYS)
        account = state.account(key)
        if account is None:
            deeds.append(("join", key))
        elif account[1]:
            draws.append((key, account[1]))
        if account is not None and source.random() < 0.5:
            deeds.append(("leave", key))
    tx = some_tx(number=number, spends=spends, mint=mint, deeds=deeds, draws=draws, signers=KEYS, fee=80,
                 looks=source.choice([[], [ref for ref in refs if ref not in spends][:2]]))
    needed = purposes(state, tx)
    fields = {**vars(tx), "data": [(purpose, source.choice([[], [1], [2, 3]])) for purpose in needed],
              "pledge": pledges[-1:] if needed else [], "approved": source.random() < (0.6 if needed else 0.97),
              "begins": source.choice([0, 0, 0, state.slot] * 4 + [state.slot + 2]),
              "ends": source.choice([10 ** 9, 10 ** 9, state.slot + 15])}
    left = difference(state, tx, params)
    piece = source.choice([key_output(source.choice(KEYS), 250), script_output(source.choice(TEXTS), 60, datum=[5]), None])
    makes = [piece] if piece is not None else []
    rest = left.coin - sum([output.bundle.coin for output in makes]) - source.choice([0] * 30 + [1])
    makes.append(source.choice([key_output, key_output, key_output, script_output])(
        source.choice(KEYS), rest, *left.tokens().rows))
    if makes[-1].address[0] == "script":
        makes[-1] = script_output(source.choice(TEXTS), rest, *left.tokens().rows)
    return some_tx(**{**fields, "makes": makes})


def claimed_well(state, params, tx):
    """The transaction with the claim with which it is not refused, if there is one."""
    for approved in (True, False):
        told = some_tx(**{**vars(tx), "approved": approved})
        mark = state.mark()
        try:
            apply_transaction(state, told, params)
        except KeptError:
            continue
        state.rewind(mark)
        return told
    return tx


class Player:
    """Makes calls on a node and keeps what was called."""

    def __init__(self, source, node, params):
        self.source = source
        self.node = node
        self.params = params
        # The pairs of a word and a transaction or block, and the answers: a value, or a pair of an error and its item.
        self.calls = []
        self.answers = []
        self.numbers = 0
        self.kept = [0]

    def call(self, word, item):
        """Makes a call and keeps the answer."""
        try:
            answer = self.node.submit(item) if word == "submit" else self.node.offer(item)
        except KeptError as e:
            answer = (e.__class__, e.what)
        self.calls.append((word, item))
        self.answers.append(answer)
        return answer

    def tx(self, state, well=True):
        self.numbers += 1
        number = self.numbers if self.source.random() < 0.95 else self.source.randint(0, self.numbers)
        tx = made_up_tx(self.source, state, self.params, number)
        return claimed_well(state, self.params, tx) if well and self.source.random() < 0.9 else tx

    def submit(self):
        state = State(GRANTS, RESERVE)
        for block in self.node.chain.blocks():
            apply_block(state, block, self.params)
        if self.source.random() < 0.8:
            for tx in self.node.waiting():
                apply_transaction(state, tx, self.params)
        return self.call("submit", self.tx(state))

    def forge(self):
        """Forges a block and mostly offers it, perhaps with a transaction too many."""
        slot = self.node.state.slot + self.source.choice([1, 1, 2, self.params.epoch_length])
        block = self.node.make_block(self.fresh(), slot)
        txs = list(block.txs)
        if self.source.random() < 0.15:
            txs.insert(self.source.randint(0, len(txs)), self.tx(self.node.state, well=False))
        return self.offered(block.number, block.parent, slot, txs)

    def fresh(self):
        return self.source.randint(1, 10 ** 6)

    def offered(self, number, parent, slot, txs):
        answer = self.call("offer", Block(number=number, parent=parent, slot=slot, txs=txs))
        if isinstance(answer, str):
            self.kept.append(number)
        return answer

    def fork(self):
        """Offers a row of blocks on some block that is not the tip, until they are higher than the tip."""
        path = self.node.chain.path()
        parent = path[-1 - self.source.randint(0, min(len(path) - 1, 3))]
        at = path.index(parent)
        slot = self.node.chain.blocks()[at - 1].slot if at else 0
        for _ in range(len(path) - at + self.source.choice([0, 0, 1])):
            slot += self.source.choice([1, 2])
            number = self.fresh()
            txs = self.node.waiting()[:self.source.choice([0, 0, 1, 3])]
            if self.source.random() < 0.1:
                txs.append(self.tx(self.node.state, well=False))
            self.offered(number, parent, slot, txs)
            parent = number

    def stray(self):
        """Offers a block that mostly is refused."""
        slot = self.source.choice([0, 1, self.node.state.slot + 1, 10 ** 6])
        self.offered(self.source.choice([0, *self.kept[-3:], self.fresh()]), self.source.choice([*self.kept[-4:], 77]), slot, ())

    def turn(self):
        """Some call or calls."""
        self.source.choice([self.submit] * 7 + [self.forge] * 3 + [self.fork, self.stray])()
