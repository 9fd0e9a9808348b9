"""The clock of a state, and the ends of epochs."""

from keptcoin.epochs.rewards import growth, shares
from keptcoin.epochs.stakes import current_stakes
from keptcoin.errors import BadSlot

# How many epochs later the next slot may be.
_MOST_EPOCHS = 4


def end_epoch(state, params):
    """Shares out the fees and the growth, and takes the next snapshot of the stakes."""
    grown = growth(state.reserve, params.share)
    eligible = [(key, coin) for key, coin in state.stakes() if state.account(key) is not None]
    given, left = shares(state.fees + grown, eligible)
    for key, share in given:
        deposit, reward = state.account(key)
        state.set_account(key, (deposit, reward + share))
    state.set_pot("treasury", state.treasury + left)
    state.set_pot("reserve", state.reserve - grown)
    state.set_pot("fees", 0)
    # The snapshot counts the rewards that were just given.
    state.set_stakes(current_stakes(state))


def check_slot(before, slot, params):
    """Raises BadSlot if the slot may not come next after another one."""
    if not before < slot <= before + _MOST_EPOCHS * params.epoch_length:
        raise BadSlot(slot)


def advance(state, slot, params):
    """Moves the clock to a later slot, over the ends of all epochs that lie between."""
    check_slot(state.slot, slot, params)
    epoch = slot // params.epoch_length
    for _ in range(state.epoch, epoch):
        end_epoch(state, params)
    state.set_clock(slot, epoch)
