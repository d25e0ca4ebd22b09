"""Which layer decides for one name."""


def decided(row):
    """What holds, (value, layer), or None: row has a pair (value or None, locked) a layer, the furthest first."""
    holding = None
    for number, pair in enumerate(row):
        value = pair[0]
        locked = pair[1]
        if value is not None:
            holding = (value, number)
        # The walk goes from the furthest layer on, so the first lock met is the one that counts,
        # and its own layer still decides: that is why the value is looked at ahead of the lock.
        if locked:
            return holding
    return holding
