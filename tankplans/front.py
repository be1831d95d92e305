"""The front of a store: how much can be left in it at the end, for how much.

An end is a tuple: how much is in the store, and what it costs to come there with all as wished.
"""


def least_cost(ends, amount):
    """What it costs at least that so much, or more, is in the store; None if it can't be had."""
    return min([end[1] for end in ends if end[0] >= amount], default=None)


def front_amounts(ends, room):
    """The told amounts, rising, each with its cost: those for which one more costs more or can't be had."""
    told = []
    for amount in range(room + 1):
        cost = least_cost(ends, amount)
        cost_of_more = least_cost(ends, amount + 1)
        if cost is not None and (cost_of_more is None or cost_of_more > cost):
            told.append((amount, cost))
    return told
