"""One house, what has been told of it, and the answers to a list of calls about it."""

from tankplans.fits import act_numbers_fit, act_stores_fit, amounts_fit, fact_count_fits, facts_fit, rooms_fit
from tankplans.reading import Reader

BEGINS = 0
ACT = 1
START = 2
WISH = 3

DONE = 0
WRONG = -1
FULL = -7

MOST_ACTS = 8


class UnknownCall(Exception):
    """A call's number stands for no call of this program."""


class Act:
    """What is told of an act; stores has, for each store, its four numbers."""

    def __init__(self, numbers, stores):
        self.needed = numbers[0]
        self.barred = numbers[1]
        self.brought = numbers[2]
        self.taken = numbers[3]
        self.cost = numbers[4]
        self.stores = stores


class House:
    """Facts, stores, acts, the start and the wish; a refused call leaves all as it was."""

    def __init__(self):
        self.lay_anew(1, [])

    def lay_anew(self, fact_count, rooms):
        self.fact_count = fact_count
        self.rooms = rooms
        self.acts = []
        self.so = 0
        self.amounts = [0] * len(rooms)
        self.wished_facts = 0
        self.wished_amounts = [0] * len(rooms)

    def begin(self, fact_count, rooms):
        if not fact_count_fits(fact_count) or not rooms_fit(rooms):
            return WRONG
        self.lay_anew(fact_count, rooms)
        return DONE

    def add_act(self, numbers, stores):
        # That there are 8 is told first, however the ninth one looks.
        if len(self.acts) >= MOST_ACTS:
            return FULL
        if not act_numbers_fit(numbers, self.fact_count) or not act_stores_fit(stores, self.rooms):
            return WRONG
        self.acts.append(Act(numbers, stores))
        return len(self.acts) - 1

    def state_fits(self, facts, amounts):
        return facts_fit(facts, self.fact_count) and amounts_fit(amounts, self.rooms)

    def set_start(self, so, amounts):
        if not self.state_fits(so, amounts):
            return WRONG
        self.so = so
        self.amounts = amounts
        return DONE

    def set_wish(self, facts, amounts):
        if not self.state_fits(facts, amounts):
            return WRONG
        self.wished_facts = facts
        self.wished_amounts = amounts
        return DONE


def answer_call(house, call):
    if call.number == BEGINS:
        return [house.begin(call.wholes[0], call.lists[0])]
    if call.number == ACT:
        return [house.add_act(call.lists[0], call.lists[1:])]
    if call.number == START:
        return [house.set_start(call.wholes[0], call.lists[0])]
    if call.number == WISH:
        return [house.set_wish(call.wholes[0], call.lists[0])]
    raise UnknownCall("no such call")


def answers(calls):
    """For each call, in order: how many numbers are answered, then these."""
    house = House()
    reader = Reader(calls)
    given = []
    while reader.has_more():
        answer = answer_call(house, reader.read_call())
        given.append(len(answer))
        given.extend(answer)
    return given
