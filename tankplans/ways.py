"""The best way from a start to each state that can be come to.

A way is a tuple: what it costs, how many acts it has, a tuple of these acts' numbers. As Python
compares tuples, the lesser one of two ways is the one to be told: the cheaper one, of as cheap ones
the one with fewer acts, of these the one with the lower act where they first differ.
"""

from tankplans.acts import state_behind


def longer_way(way, number, cost):
    return (way[0] + cost, way[1] + 1, way[2] + (number,))


def cheapest_state(waiting):
    return min(waiting, key=lambda state: waiting[state][0])


def offer_way(waiting, state, way):
    if state not in waiting or way < waiting[state]:
        waiting[state] = way


def best_ways(start, acts, rooms):
    """A dict: for each state that can be come to, the start too, the best way to it."""
    waiting = {start: (0, 0, ())}
    settled = {}
    while len(waiting) > 0:
        # Each act costs at least 1, so no better way to the cheapest state is still to come: it would
        # go through states that cost less, and these are settled.
        state = cheapest_state(waiting)
        way = waiting.pop(state)
        settled[state] = way
        for number, act in enumerate(acts):
            behind = state_behind(act, state, rooms)
            if behind is not None and behind not in settled:
                offer_way(waiting, behind, longer_way(way, number, act.cost))
    return settled
