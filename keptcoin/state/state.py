"""The state of a ledger. Its changes can be taken back."""

from keptcoin.amounts.bundle import Bundle
from keptcoin.errors import Absent, NoMark, NoPot, Present
from keptcoin.state.books import Books
from keptcoin.tx.output import Output


class State:
    """Unspent outputs, accounts, stakes, pots, the clock and the used numbers."""

    def __init__(self, grants, reserve):
        self.fees = 0
        self.reserve = reserve
        self.treasury = 0
        self.slot = 0
        self.epoch = 0
        self.books = Books()
        self._outputs = {}
        self._accounts = {}
        self._stakes = ()
        self._used = {}
        # For each change that can be taken back a triple: what kind it is, of which item, and what was there before.
        self._changes = []
        # How many changes before these were made.
        self._forgotten = 0
        for index, (key, coin) in enumerate(grants):
            _put_output(self, (0, index), Output(("key", key), Bundle.of_coin(coin)))

    def _change(self, kind, item, before, after):
        """Makes a change that can be taken back."""
        self._changes.append((kind, item, before))
        put = _PUTS[kind]
        put(self, item, after)

    def add_output(self, ref, output):
        """Makes an output unspent at a reference."""
        if ref in self._outputs:
            raise Present(ref)
        self._change("output", ref, None, output)

    def remove_output(self, ref):
        """Takes the output at a reference away and returns it."""
        output = self.output(ref)
        if output is None:
            raise Absent(ref)
        self._change("output", ref, output, None)
        return output

    def set_account(self, key, pair):
        """Sets the deposit and the reward of a key, or takes its account away with None."""
        self._change("account", key, self.account(key), pair)

    def set_pot(self, pot, amount):
        """Sets what is in a pot."""
        pots = {"fees": self.fees, "reserve": self.reserve, "treasury": self.treasury}
        if pot not in pots:
            raise NoPot(pot)
        self._change("pot", pot, pots[pot], amount)

    def set_clock(self, slot, epoch):
        """Sets the slot and the epoch."""
        self._change("clock", None, (self.slot, self.epoch), (slot, epoch))

    def set_stakes(self, rows):
        """Sets the stakes, pairs of a key and coin in any order."""
        self._change("stakes", None, self._stakes, tuple(sorted(rows)))

    def use(self, number):
        """Notes that the number of a transaction is used."""
        if self.is_used(number):
            raise Present(number)
        self._change("used", number, False, True)

    def output(self, ref):
        """The unspent output at a reference, or None."""
        return self._outputs.get(ref)

    def account(self, key):
        """The deposit and the reward of a key, or None."""
        return self._accounts.get(key)

    def is_used(self, number):
        """True if the number of a transaction is used."""
        return number in self._used

    def unspent(self):
        """The references of all unspent outputs, ascending."""
        return sorted(self._outputs)

    def keys_joined(self):
        """The keys that have an account, ascending."""
        return sorted(self._accounts)

    def stakes(self):
        """The stakes, ascending by key."""
        return list(self._stakes)

    def total(self):
        """All that there is: outputs, deposits, rewards and pots."""
        coin = self.fees + self.reserve + self.treasury
        for deposit, reward in self._accounts.values():
            coin += deposit + reward
        return self.books.supply() + Bundle.of_coin(coin)

    def mark(self):
        """How many changes were made and not taken back."""
        return self._forgotten + len(self._changes)

    def rewind(self, mark):
        """Takes back all changes but so many first ones."""
        self._check_mark(mark)
        while self.mark() > mark:
            kind, item, before = self._changes.pop()
            put = _PUTS[kind]
            put(self, item, before)

    def forget(self, mark):
        """Gives up the means to take back so many first changes."""
        self._check_mark(mark)
        del self._changes[:mark - self._forgotten]
        self._forgotten = mark

    def _check_mark(self, mark):
        if not self._forgotten <= mark <= self.mark():
            raise NoMark(mark)

    def picture(self):
        """The state as a plain value."""
        outputs = tuple([(ref, self._outputs[ref].picture()) for ref in self.unspent()])
        accounts = tuple([(key, *self._accounts[key]) for key in self.keys_joined()])
        return (outputs, accounts, self._stakes, self.fees, self.reserve, self.treasury, self.slot, self.epoch,
                tuple(sorted(self._used)))


# What puts something into the state in the place of what is there. None takes away what is there.


def _put_output(state, ref, output):
    if output is None:
        state.books.removed(ref, state._outputs.pop(ref))
    else:
        state._outputs[ref] = output
        state.books.added(ref, output)


def _put_account(state, key, pair):
    if pair is None:
        state._accounts.pop(key, None)
    else:
        state._accounts[key] = pair


def _put_pot(state, pot, amount):
    if pot == "fees":
        state.fees = amount
    elif pot == "reserve":
        state.reserve = amount
    else:
        state.treasury = amount


def _put_clock(state, item, clock):
    state.slot, state.epoch = clock


def _put_stakes(state, item, rows):
    state._stakes = rows


def _put_used(state, number, is_used):
    if is_used:
        state._used[number] = True
    else:
        del state._used[number]


_PUTS = {
    "output": _put_output,
    "account": _put_account,
    "pot": _put_pot,
    "clock": _put_clock,
    "stakes": _put_stakes,
    "used": _put_used,
}
