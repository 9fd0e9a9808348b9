"""A second statement of what transactions, epochs and blocks do, over plain pictures alone.

It takes the claims of transactions for granted and refuses nothing.
"""

COIN = ("", 0)


def added(rows, others, sign=1):
    """The rows of the sum of two bundles, or of their difference."""
    sums = dict(rows)
    for asset, quantity in others:
        sums[asset] = sums.get(asset, 0) + sign * quantity
    return tuple(sorted([(asset, quantity) for asset, quantity in sums.items() if quantity]))


def coin_in(rows):
    return dict(rows).get(COIN, 0)


class Model:
    """The state of a ledger as dicts and numbers."""

    def __init__(self, grants, reserve):
        self.outputs = {(0, at): (("key", key), ((COIN, coin),), ()) for at, (key, coin) in enumerate(grants)}
        self.accounts = {}
        self.stakes = ()
        self.fees, self.reserve, self.treasury, self.slot, self.epoch = 0, reserve, 0, 0, 0
        self.used = ()

    @staticmethod
    def of_state(state):
        """The model of a state."""
        model = Model([], 0)
        outputs, accounts, model.stakes, *pots, used = state.picture()
        model.outputs = dict(outputs)
        model.accounts = {key: (deposit, reward) for key, deposit, reward in accounts}
        model.fees, model.reserve, model.treasury, model.slot, model.epoch = pots
        model.used = used
        return model

    def picture(self):
        accounts = tuple([(key, *self.accounts[key]) for key in sorted(self.accounts)])
        return (tuple(sorted(self.outputs.items())), accounts, self.stakes, self.fees, self.reserve, self.treasury,
                self.slot, self.epoch, self.used)

    def total(self):
        rows = ()
        for _, held, _ in self.outputs.values():
            rows = added(rows, held)
        coin = self.fees + self.reserve + self.treasury + sum([sum(pair) for pair in self.accounts.values()])
        return added(rows, [(COIN, coin)])

    def apply(self, picture, params):
        """Applies a transaction, whose claim is right."""
        number, spends, _, pledge, makes, _, fee, _, _, _, _, deeds, draws, approved = picture
        self.used = tuple(sorted([*self.used, number]))
        if not approved:
            self.fees += sum([coin_in(self.outputs.pop(ref)[1]) for ref in pledge])
            return
        for ref in spends:
            del self.outputs[ref]
        for at, output in enumerate(makes):
            self.outputs[number, at] = output
        for key, amount in draws:
            deposit, reward = self.accounts[key]
            self.accounts[key] = (deposit, reward - amount)
        for word, key in deeds:
            if word == "join":
                self.accounts[key] = (params.deposit, 0)
            else:
                del self.accounts[key]
        self.fees += fee

    def current_stakes(self):
        rows = []
        for key in sorted(self.accounts):
            held = [coin_in(rows) for address, rows, _ in self.outputs.values() if address == ("key", key)]
            rows.append((key, sum(held) + self.accounts[key][1]))
        return tuple([row for row in rows if row[1]])

    def end_epoch(self, params):
        grown = self.reserve * params.share // 1000
        pot = self.fees + grown
        eligible = [(key, coin) for key, coin in self.stakes if key in self.accounts]
        whole = sum([coin for _, coin in eligible])
        left = pot
        for key, coin in eligible:
            given = pot * coin // whole if whole else 0
            deposit, reward = self.accounts[key]
            self.accounts[key] = (deposit, reward + given)
            left -= given
        self.treasury += left
        self.reserve -= grown
        self.fees = 0
        self.stakes = self.current_stakes()

    def advance(self, slot, params):
        while self.epoch < slot // params.epoch_length:
            self.end_epoch(params)
            self.epoch += 1
        self.slot = slot

    def apply_block(self, picture, params):
        _, _, slot, txs = picture
        self.advance(slot, params)
        for tx in txs:
            self.apply(tx, params)


def played(grants, reserve, blocks, params):
    """The model behind blocks that are applied from the first day on."""
    model = Model(grants, reserve)
    for block in blocks:
        model.apply_block(block.picture(), params)
    return model
