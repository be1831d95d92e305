"""Writes calls as the interface lays them, and takes the answers apart again."""

from tankplans.house import answers

HIGHEST = 4294967295


def counted(numbers):
    return [len(numbers)] + numbers


def begins(facts, rooms):
    return [0, 1, facts, 1] + counted(rooms)


def act(numbers, stores):
    laid = [1, 0, 1 + len(stores)] + counted(numbers)
    for store in stores:
        laid = laid + counted(store)
    return laid


def start(so, amounts):
    return [2, 1, so, 1] + counted(amounts)


def wish(facts, amounts):
    return [3, 1, facts, 1] + counted(amounts)


def plan():
    return [4, 0, 0]


def front(store):
    return [5, 1, store, 0]


def check(acts):
    return [6, 0, 1] + counted(acts)


def reach():
    return [7, 0, 0]


def laid(calls):
    return [number for call in calls for number in call]


def ask(*calls):
    """One list of numbers for each call; fails where the counts don't lead to the end."""
    given = answers(laid(calls))
    parts = []
    place = 0
    while place < len(given):
        length = given[place]
        part = given[place + 1:place + 1 + length]
        if length < 1 or len(part) != length:
            raise AssertionError(f"a wrong count at {place} of {given}")
        parts.append(part)
        place = place + 1 + length
    if len(parts) != len(calls):
        raise AssertionError(f"{len(parts)} answers to {len(calls)} calls: {given}")
    return parts


def last(*calls):
    """What the last call answers."""
    return ask(*calls)[-1]


def firsts(*calls):
    """The number answered by each call, each of which answers one number alone."""
    parts = ask(*calls)
    for part in parts:
        if len(part) != 1:
            raise AssertionError(f"more than one number: {parts}")
    return [part[0] for part in parts]
