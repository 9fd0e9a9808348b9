"""How evaluations and runs of the machine end without a value."""


class Ended(Exception):
    """Ends an evaluation or a run. It never leaves the call that began it."""

    def __init__(self, ending):
        self.ending = ending


def value_in(answer):
    """The value of a pair (ending, value), which may be an error instead."""
    ending, value = answer
    if ending != "value":
        raise Ended(ending)
    return value
