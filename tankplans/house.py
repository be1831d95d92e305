"""One house, what has been told of it, and the answers to a list of calls about it."""

from tankplans.acts import Act, state_behind
from tankplans.fits import act_numbers_fit, act_stores_fit, amounts_fit, fact_count_fits, facts_fit, rooms_fit
from tankplans.front import front_amounts
from tankplans.reading import Reader
from tankplans.ways import best_ways

BEGINS = 0
ACT = 1
START = 2
WISH = 3
PLAN = 4
FRONT = 5
CHECK = 6
REACH = 7

DONE = 0
WRONG = -1
NO_STORE = -2
NOT_AS_WISHED = -3
NOT_TO_BE_DONE = -5
NO_PLAN = -6
FULL = -7

MOST_ACTS = 8


class UnknownCall(Exception):
    """A call's number stands for no call of this program."""


class House:
    """Facts, stores, acts, the start and the wish; a refused call leaves all as it was."""

    def __init__(self):
        self.lay_anew(1, [])

    def lay_anew(self, fact_count, rooms):
        self.fact_count = fact_count
        self.rooms = rooms
        self.acts = []
        self.so = 0
        self.amounts = [0] * len(rooms)
        self.wished_facts = 0
        self.wished_amounts = [0] * len(rooms)

    def begin(self, fact_count, rooms):
        if not fact_count_fits(fact_count) or not rooms_fit(rooms):
            return WRONG
        self.lay_anew(fact_count, rooms)
        return DONE

    def add_act(self, numbers, stores):
        # That there are 8 is told first, however the ninth one looks.
        if len(self.acts) >= MOST_ACTS:
            return FULL
        if not act_numbers_fit(numbers, self.fact_count) or not act_stores_fit(stores, self.rooms):
            return WRONG
        self.acts.append(Act(numbers, stores))
        return len(self.acts) - 1

    def state_fits(self, facts, amounts):
        return facts_fit(facts, self.fact_count) and amounts_fit(amounts, self.rooms)

    def set_start(self, so, amounts):
        if not self.state_fits(so, amounts):
            return WRONG
        self.so = so
        self.amounts = amounts
        return DONE

    def set_wish(self, facts, amounts):
        if not self.state_fits(facts, amounts):
            return WRONG
        self.wished_facts = facts
        self.wished_amounts = amounts
        return DONE

    def start_state(self):
        return tuple([self.so] + self.amounts)

    def is_as_wished(self, state):
        if (state[0] & self.wished_facts) != self.wished_facts:
            return False
        for amount, least in zip(state[1:], self.wished_amounts):
            if amount < least:
                return False
        return True

    def ways(self):
        return best_ways(self.start_state(), self.acts, self.rooms)

    def tell_plan(self):
        plans = [way for state, way in self.ways().items() if self.is_as_wished(state)]
        if len(plans) == 0:
            return [NO_PLAN]
        best = min(plans)
        return [best[0]] + list(best[2])

    def tell_front(self, store):
        if store >= len(self.rooms):
            return [NO_STORE]
        ends = [(state[1 + store], way[0]) for state, way in self.ways().items() if self.is_as_wished(state)]
        amounts = front_amounts(ends, self.rooms[store])
        told = [len(amounts)]
        for amount, cost in amounts:
            told.extend([amount, cost])
        return told

    def state_behind_numbered(self, number, state):
        if number >= len(self.acts):
            return None
        return state_behind(self.acts[number], state, self.rooms)

    def check(self, numbers):
        state = self.start_state()
        cost = 0
        for done, number in enumerate(numbers):
            behind = self.state_behind_numbered(number, state)
            if behind is None:
                return [NOT_TO_BE_DONE, done] + list(state)
            state = behind
            cost = cost + self.acts[number].cost
        if not self.is_as_wished(state):
            return [NOT_AS_WISHED] + list(state)
        return [cost] + list(state)

    def count_reached(self):
        return len(self.ways())


def answer_call(house, call):
    if call.number == BEGINS:
        return [house.begin(call.wholes[0], call.lists[0])]
    if call.number == ACT:
        return [house.add_act(call.lists[0], call.lists[1:])]
    if call.number == START:
        return [house.set_start(call.wholes[0], call.lists[0])]
    if call.number == WISH:
        return [house.set_wish(call.wholes[0], call.lists[0])]
    if call.number == PLAN:
        return house.tell_plan()
    if call.number == FRONT:
        return house.tell_front(call.wholes[0])
    if call.number == CHECK:
        return house.check(call.lists[0])
    if call.number == REACH:
        return [house.count_reached()]
    raise UnknownCall("no such call")


def answers(calls):
    """For each call, in order: how many numbers are answered, then these."""
    house = House()
    reader = Reader(calls)
    given = []
    while reader.has_more():
        answer = answer_call(house, reader.read_call())
        given.append(len(answer))
        given.extend(answer)
    return given
