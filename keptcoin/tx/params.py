"""The parameters of a ledger."""


class Params:
    """The parameters of a ledger, which stay the same from its first day on."""

    def __init__(self, *, deposit=20, fee_base=5, fee_weight=1, fee_step=2, pledge_rate=150, coin_base=2,
                 epoch_length=10, share=50, depth=4, most_steps=20000):
        self.deposit = deposit
        self.fee_base = fee_base
        self.fee_weight = fee_weight
        self.fee_step = fee_step
        self.pledge_rate = pledge_rate
        self.coin_base = coin_base
        self.epoch_length = epoch_length
        self.share = share
        self.depth = depth
        self.most_steps = most_steps
