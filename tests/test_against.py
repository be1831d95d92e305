"""Many lines, each answer held against one that is worked out in another way.

Ways are counted back from the ends here, and the first plan is then walked from the start; on
small houses all rows of acts are gone through besides. What is asked for is drawn from a row of
numbers that is the same each time.
"""

import itertools
import unittest

from lines import act, ask, begins, check, front, plan, reach, start, wish

FAR = (10 ** 9, 10 ** 9)


class Row:
    """Numbers that look thrown together, the same ones at each run."""

    def __init__(self, seed):
        self.seed = seed
        # Rows of seeds side by side are alike at first.
        for turn in range(10):
            self.below(2)

    def below(self, limit):
        self.seed = (self.seed * 6364136223846793005 + 1442695040888963407) % 2 ** 64
        return (self.seed >> 33) % limit

    def pick(self, choices):
        return choices[self.below(len(choices))]


class Told:
    """A house as it is told by calls."""

    def __init__(self, facts, rooms, acts, first, wished):
        self.facts = facts
        self.rooms = rooms
        self.acts = acts
        self.first = first
        self.wished = wished

    def calls(self):
        told = [begins(self.facts, self.rooms)] + [act(numbers, stores) for numbers, stores in self.acts]
        return told + [start(self.first[0], list(self.first[1:])), wish(self.wished[0], list(self.wished[1:]))]

    def states(self):
        return list(itertools.product(range(2 ** self.facts), *[range(room + 1) for room in self.rooms]))

    def after(self, number, state):
        """None where the act may not be done; fact by fact and store by store."""
        numbers, stores = self.acts[number]
        facts = 0
        for fact in range(self.facts):
            bit = 2 ** fact
            is_so = state[0] // bit % 2 == 1
            needed, barred, brought, taken = [told // bit % 2 == 1 for told in numbers[:4]]
            if (needed and not is_so) or (barred and is_so):
                return None
            if brought or (is_so and not taken):
                facts = facts + bit
        amounts = []
        for (least, taken, brought, spilt), amount, room in zip(stores, state[1:], self.rooms):
            if amount < max(least, taken) or (not spilt and amount - taken + brought > room):
                return None
            amounts.append(min(room, amount - taken + brought))
        return tuple([facts] + amounts)

    def is_end(self, state):
        facts = all(state[0] // 2 ** fact % 2 == 1 for fact in range(self.facts) if self.wished[0] // 2 ** fact % 2)
        return facts and all(amount >= least for amount, least in zip(state[1:], self.wished[1:]))


def steps(told):
    found = []
    for state in told.states():
        for number in range(len(told.acts)):
            after = told.after(number, state)
            if after is not None:
                found.append((state, number, after, told.acts[number][0][4]))
    return found


def left_to_go(told, all_steps, is_end):
    """For each state the least cost, and with it the fewest acts, to an end."""
    left = {state: (0, 0) if is_end(state) else FAR for state in told.states()}
    changed = True
    while changed:
        changed = False
        for state, number, after, cost in all_steps:
            offered = (left[after][0] + cost, left[after][1] + 1)
            if left[after] != FAR and offered < left[state]:
                left[state] = offered
                changed = True
    return left


def expected_plan(told, all_steps):
    left = left_to_go(told, all_steps, told.is_end)
    state = told.first
    if left[state] == FAR:
        return [-6]
    acts = []
    while left[state] != (0, 0):
        for number in range(len(told.acts)):
            after = told.after(number, state)
            cost = told.acts[number][0][4]
            if after is not None and (left[after][0] + cost, left[after][1] + 1) == left[state]:
                acts.append(number)
                state = after
                break
    return [left[told.first][0]] + acts


def expected_front(told, all_steps, store):
    costs = []
    for amount in range(told.rooms[store] + 1):
        left = left_to_go(told, all_steps, lambda state: told.is_end(state) and state[1 + store] >= amount)
        costs.append(left[told.first][0])
    costs.append(FAR[0])
    amounts = [amount for amount in range(len(costs) - 1) if costs[amount] < costs[amount + 1]]
    return [len(amounts)] + [number for amount in amounts for number in (amount, costs[amount])]


def expected_check(told, numbers):
    states = [told.first]
    for number in numbers:
        after = told.after(number, states[-1]) if number < len(told.acts) else None
        if after is None:
            return [-5, len(states) - 1] + list(states[-1])
        states.append(after)
    if not told.is_end(states[-1]):
        return [-3] + list(states[-1])
    return [sum(told.acts[number][0][4] for number in numbers)] + list(states[-1])


def expected_reach(told):
    found = [told.first]
    for state in found:
        for number in range(len(told.acts)):
            after = told.after(number, state)
            if after is not None and after not in found:
                found.append(after)
    return [len(found)]


def drawn_fact(row, facts, one_of):
    """A set of one fact, once in so many times; else of none."""
    return 2 ** row.below(facts) if row.below(one_of) == 0 else 0


def drawn_store(row, room):
    """Mostly an act changes a store by a little or not at all, as this makes long plans."""
    most = row.pick([1, 1, 2, room])
    least, taken, brought = [min(room, row.below(most + 1)) * row.below(2) for turn in range(3)]
    return [least, taken, brought, row.below(2)]


def drawn_act(row, facts, rooms, costs):
    numbers = [drawn_fact(row, facts, one_of) for one_of in (3, 5, 2, 3)] + [row.pick(costs)]
    return (numbers, [drawn_store(row, room) for room in rooms])


def drawn_house(row, most_facts, most_room, most_acts):
    facts = 1 + row.below(most_facts)
    rooms = [1 + row.below(most_room) for store in range(row.pick([0, 1, 2, 2]))]
    costs = row.pick([[1], [1, 2], [1, 2, 3, 4], [5, 10, 15], [997, 998, 999, 1000]])
    acts = [drawn_act(row, facts, rooms, costs) for number in range(most_acts - row.below(3))]
    first = tuple([drawn_fact(row, facts, 2)] + [row.below(room + 1) // 2 for room in rooms])
    wished = tuple([row.below(2 ** facts)] + [row.below(room + 1) for room in rooms])
    told = Told(facts, rooms, acts, first, wished)
    if row.below(3) > 0:
        told.wished = walked(row, told)
    return told


def walked(row, told):
    """A state that can be come to, so that there is a plan if it is wished."""
    state = told.first
    for turn in range(row.below(100)):
        after = told.after(row.below(len(told.acts)), state)
        state = state if after is None else after
    return state


class Against(unittest.TestCase):
    def hold(self, told, row):
        all_steps = steps(told)
        planned = expected_plan(told, all_steps)
        tried = [[row.below(len(told.acts) + (row.below(4) == 0)) for k in range(row.below(5))] for turn in range(4)]
        if planned[0] >= 0 and len(planned) <= 41:
            tried.append(planned[1:])
        asked = [plan(), reach()] + [front(store) for store in range(len(told.rooms))]
        expected = [planned, expected_reach(told)]
        expected = expected + [expected_front(told, all_steps, store) for store in range(len(told.rooms))]
        asked = asked + [check(numbers) for numbers in tried]
        expected = expected + [expected_check(told, numbers) for numbers in tried]
        house = told.calls()
        given = ask(*house, *asked)
        self.assertEqual(given[:len(house)], [[0]] + [[number] for number in range(len(told.acts))] + [[0], [0]])
        self.assertEqual(given[len(house):], expected, house)
        return planned

    def test_small_houses(self):
        kinds = {}
        for seed in range(400):
            row = Row(seed)
            planned = self.hold(drawn_house(row, 2, 3, 5), row)
            kind = "none" if planned[0] < 0 else "empty" if planned == [0] else "some"
            kinds[kind] = kinds.get(kind, 0) + 1
        # Without enough of each kind the lines would hold little against anything.
        for kind in ("none", "empty", "some"):
            self.assertGreater(kinds.get(kind, 0), 30, kinds)

    def test_large_houses(self):
        longest = 0
        for seed in range(200):
            row = Row(1000 + seed)
            longest = max(longest, len(self.hold(drawn_house(row, 3, 7, 8), row)) - 1)
        self.assertGreater(longest, 5)


class AgainstAllRows(unittest.TestCase):
    def all_rows(self, told, most):
        """All plans of up to so many acts, as cost, length and acts."""
        found = []
        for length in range(most + 1):
            for acts in itertools.product(range(len(told.acts)), repeat=length):
                answer = expected_check(told, acts)
                if answer[0] >= 0:
                    found.append((answer[0], length, acts))
        return found

    def test_no_row_of_few_acts_comes_ahead(self):
        found_some = 0
        for seed in range(150):
            told = drawn_house(Row(5000 + seed), 2, 3, 4)
            given = ask(*told.calls(), plan())[-1]
            rows = self.all_rows(told, 5)
            if rows:
                found_some = found_some + 1
                planned = (given[0], len(given) - 1, tuple(given[1:]))
                self.assertLessEqual(planned, min(rows), told.calls())
                if len(planned[2]) <= 5:
                    self.assertEqual(planned, min(rows), told.calls())
        self.assertGreater(found_some, 50)


if __name__ == "__main__":
    unittest.main()
