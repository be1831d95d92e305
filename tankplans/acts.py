"""Acts: where one may be done, and what is behind it.

A state is a tuple as it is told: its set of facts, then how much is in each store.
"""


class Act:
    """What is told of an act; stores has, for each store, its four numbers."""

    def __init__(self, numbers, stores):
        self.needed = numbers[0]
        self.barred = numbers[1]
        self.brought = numbers[2]
        self.taken = numbers[3]
        self.cost = numbers[4]
        self.stores = stores


def facts_allow(act, facts):
    return (facts & act.needed) == act.needed and (facts & act.barred) == 0


def facts_behind(act, facts):
    left = facts - (facts & act.taken)
    # Bringing comes last: what is taken away and brought as well is so.
    return left | act.brought


def amount_behind(store, amount, room):
    """How much is in one store behind an act with these four numbers; None if it may not be done."""
    least = store[0]
    drawn = store[1]
    filled = store[2]
    is_spilt = store[3] == 1
    if amount < least or amount < drawn:
        return None
    behind = amount - drawn + filled
    if behind <= room:
        return behind
    return room if is_spilt else None


def state_behind(act, state, rooms):
    """The state behind an act that is done in a state; None if it may not be done there."""
    facts = state[0]
    if not facts_allow(act, facts):
        return None
    told = [facts_behind(act, facts)]
    for store, amount, room in zip(act.stores, state[1:], rooms):
        behind = amount_behind(store, amount, room)
        if behind is None:
            return None
        told.append(behind)
    return tuple(told)
