"""What the keys of the group have at stake."""


def current_stakes(state):
    """The pairs (key, coin) of the keys that have an account and coin, ascending by key."""
    rows = []
    for key in state.keys_joined():
        _, reward = state.account(key)
        rows.append((key, state.books.balance(("key", key)).coin + reward))
    return [(key, coin) for key, coin in rows if coin != 0]
