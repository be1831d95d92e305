"""plan: the cheapest, of as cheap ones the one with the fewest acts, of these the first; -6 if there's none."""

import unittest

from lines import act, ask, begins, check, last, plan, start, wish


def fill(cost, brought, spilt=0):
    return act([0, 0, 0, 0, cost], [[0, 0, brought, spilt]])


def brings(cost, needed, brought):
    return act([needed, 0, brought, 0, cost], [])


class AsWishedAtTheStart(unittest.TestCase):
    def test_at_the_beginning_of_a_line(self):
        self.assertEqual(ask(plan()), [[0]])

    def test_with_facts_and_amounts(self):
        self.assertEqual(last(begins(2, [5, 3]), start(3, [4, 2]), wish(1, [4, 1]), plan()), [0])
        self.assertEqual(last(begins(2, [5, 3]), start(3, [5, 3]), wish(3, [5, 3]), plan()), [0])

    def test_no_act_is_done_though_there_are_some(self):
        self.assertEqual(last(brings(1, 0, 1), act([0] * 4 + [1], []), plan()), [0])

    def test_facts_that_are_not_wished_do_not_matter(self):
        self.assertEqual(last(begins(3, []), start(7, []), wish(2, []), plan()), [0])
        self.assertEqual(last(begins(3, []), start(7, []), wish(0, []), plan()), [0])


class NoPlan(unittest.TestCase):
    def test_with_no_acts(self):
        self.assertEqual(last(wish(1, []), plan()), [-6])
        self.assertEqual(last(begins(1, [5]), wish(0, [1]), plan()), [-6])
        self.assertEqual(last(begins(1, [5, 5]), start(0, [5, 4]), wish(0, [5, 5]), plan()), [-6])

    def test_one_of_two_wished_facts_is_never_so(self):
        self.assertEqual(last(begins(2, []), brings(1, 0, 1), wish(3, []), plan()), [-6])

    def test_both_facts_never_at_a_time(self):
        house = [begins(2, []), act([0, 0, 1, 2, 1], []), act([0, 0, 2, 1, 1], []), wish(3, [])]
        self.assertEqual(last(*house, plan()), [-6])

    def test_an_amount_is_never_hit(self):
        self.assertEqual(last(begins(1, [5]), fill(1, 2), wish(0, [5]), plan()), [-6])
        self.assertEqual(last(begins(1, [5]), fill(1, 2, 1), wish(0, [5]), plan()), [3, 0, 0, 0])

    def test_nothing_is_overdrawn(self):
        house = [begins(1, [7]), act([0, 0, 1, 0, 1], [[0, 4, 0, 0]]), start(0, [3]), wish(1, [0])]
        self.assertEqual(last(*house, plan()), [-6])

    def test_it_may_change_by_a_further_act(self):
        house = [wish(1, []), plan(), brings(4, 0, 1), plan()]
        self.assertEqual(ask(*house), [[0], [-6], [0], [4, 0]])


class Wished(unittest.TestCase):
    def test_each_amount_is_at_least_what_is_wished(self):
        house = [begins(1, [7]), fill(2, 3)]
        self.assertEqual(last(*house, wish(0, [1]), plan()), [2, 0])
        self.assertEqual(last(*house, wish(0, [3]), plan()), [2, 0])
        self.assertEqual(last(*house, wish(0, [4]), plan()), [4, 0, 0])
        self.assertEqual(last(*house, wish(0, [6]), plan()), [4, 0, 0])
        self.assertEqual(last(*house, wish(0, [7]), plan()), [-6])

    def test_both_stores_and_the_facts_at_one_time(self):
        house = [begins(1, [2, 2]), act([0] * 4 + [1], [[0, 0, 1, 0], [0] * 4]),
                 act([0] * 4 + [1], [[0] * 4, [0, 0, 1, 0]]), act([0, 0, 1, 0, 1], [[0, 1, 0, 0], [0, 1, 0, 0]])]
        self.assertEqual(last(*house, wish(0, [2, 1]), plan()), [3, 0, 0, 1])
        self.assertEqual(last(*house, wish(1, [2, 1]), plan()), [6, 0, 0, 1, 1, 2, 0])
        self.assertEqual(last(*house, wish(1, [0, 0]), plan()), [3, 0, 1, 2])

    def test_on_the_way_it_need_not_be_as_wished(self):
        house = [begins(2, []), act([1, 0, 2, 1, 3], []), act([2, 0, 1, 0, 4], []), start(1, []), wish(3, [])]
        self.assertEqual(last(*house, plan()), [7, 0, 1])


class Cheapest(unittest.TestCase):
    def test_cheaper_with_more_acts_wins(self):
        house = [begins(1, [3]), fill(10, 3), fill(3, 1), wish(0, [3])]
        self.assertEqual(last(*house, plan()), [9, 1, 1, 1])

    def test_cheaper_with_fewer_acts_wins(self):
        house = [begins(1, [3]), fill(3, 1), fill(8, 3), wish(0, [3])]
        self.assertEqual(last(*house, plan()), [8, 1])

    def test_by_1_alone(self):
        house = [begins(1, [7]), fill(1000, 7), fill(142, 1), wish(0, [7])]
        self.assertEqual(last(*house, plan()), [994] + [1] * 7)
        house = [begins(1, [7]), fill(1000, 7), fill(143, 1), wish(0, [7])]
        self.assertEqual(last(*house, plan()), [1000, 0])

    def test_a_state_found_first_may_be_had_cheaper_later(self):
        house = [begins(3, []), brings(9, 0, 2), brings(1, 0, 1), brings(2, 1, 2), brings(1, 2, 4), wish(4, [])]
        self.assertEqual(last(*house, plan()), [4, 1, 2, 3])

    def test_more_than_is_wished_where_it_costs_less(self):
        house = [begins(1, [7]), fill(5, 1), fill(4, 6), wish(0, [1])]
        self.assertEqual(last(*house, plan()), [4, 1])


class FewestActs(unittest.TestCase):
    def test_of_as_cheap_ones(self):
        house = [begins(1, [3]), fill(3, 1), fill(9, 3), wish(0, [3])]
        self.assertEqual(last(*house, plan()), [9, 1])

    def test_also_in_the_middle(self):
        house = [begins(2, []), brings(1, 0, 1), brings(1, 1, 2), brings(2, 0, 3), wish(3, [])]
        self.assertEqual(last(*house, plan()), [2, 2])
        house = [begins(3, []), brings(1, 0, 1), brings(1, 1, 2), brings(2, 0, 3), brings(5, 3, 4), wish(7, [])]
        self.assertEqual(last(*house, plan()), [7, 2, 3])

    def test_of_different_ends_as_wished(self):
        house = [begins(1, [7]), fill(2, 1), fill(6, 7), wish(0, [3])]
        self.assertEqual(last(*house, plan()), [6, 1])

    def test_ahead_of_lower_acts(self):
        house = [begins(1, [4]), fill(1, 1), fill(3, 3), fill(4, 4), wish(0, [4])]
        self.assertEqual(last(*house, plan()), [4, 2])


class First(unittest.TestCase):
    def test_of_like_acts_the_lower_one(self):
        house = [brings(5, 0, 1), brings(5, 0, 1), brings(5, 0, 1), wish(1, [])]
        self.assertEqual(last(*house, plan()), [5, 0])

    def test_of_two_orders_the_lower_act_first(self):
        house = [begins(2, []), brings(2, 0, 2), brings(7, 0, 1), wish(3, [])]
        self.assertEqual(last(*house, plan()), [9, 0, 1])
        house = [begins(2, []), brings(7, 0, 1), brings(2, 0, 2), wish(3, [])]
        self.assertEqual(last(*house, plan()), [9, 0, 1])

    def test_the_first_place_counts_not_the_last(self):
        house = [begins(3, []), brings(1, 2, 4), brings(1, 0, 1), brings(1, 0, 2), brings(1, 1, 4), wish(4, [])]
        self.assertEqual(last(*house, plan()), [2, 1, 3])

    def test_of_different_ends_as_wished(self):
        house = [begins(3, []), brings(2, 0, 4), brings(2, 0, 5), brings(2, 0, 1), wish(4, [])]
        self.assertEqual(last(*house, plan()), [2, 0])
        house = [begins(3, []), brings(2, 0, 5), brings(2, 0, 4), wish(4, [])]
        self.assertEqual(last(*house, plan()), [2, 0])

    def test_a_way_that_is_dearer_at_first_may_be_the_first_one(self):
        house = [begins(3, []), brings(6, 0, 1), brings(2, 0, 2), brings(5, 2, 4), brings(1, 1, 4), wish(4, [])]
        self.assertEqual(last(*house, plan()), [7, 0, 3])

    def test_the_lower_one_may_come_through_a_state_found_later(self):
        house = [begins(3, []), brings(3, 0, 1), brings(1, 0, 2), act([1, 0, 4, 1, 1], []), act([2, 0, 4, 2, 3], []),
                 wish(4, [])]
        self.assertEqual(last(*house, plan()), [4, 0, 2])


class Repeated(unittest.TestCase):
    def test_the_same_act_more_than_once(self):
        house = [begins(1, [7]), fill(1000, 1), wish(0, [7])]
        self.assertEqual(last(*house, plan()), [7000] + [0] * 7)

    def test_again_with_another_between(self):
        house = [begins(1, [2, 4]), act([0] * 4 + [3], [[0, 0, 2, 0], [0] * 4]),
                 act([0] * 4 + [1], [[2, 2, 0, 0], [0, 0, 2, 0]]), wish(0, [0, 4])]
        self.assertEqual(last(*house, plan()), [8, 0, 1, 0, 1])

    def test_the_longest_plan(self):
        house = counter()
        told = last(*house, plan())
        self.assertEqual(told[0], 511 * 1000)
        self.assertEqual(told[1:], counter_acts())
        self.assertEqual(last(*house, check(told[1:41])), [-3, 0, 0, 5])


def counter():
    """Counts from 0 to 511 by ones: no other act may be done than the one that counts on."""
    cost = 1000
    full = [7, 7, 0, 0]
    up = [0, 0, 1, 0]
    return [begins(3, [7, 7]), act([0, 0, 0, 0, cost], [up, [0] * 4]), act([0, 0, 0, 0, cost], [full, up]),
            act([0, 1, 1, 0, cost], [full, full]), act([1, 2, 2, 1, cost], [full, full]),
            act([3, 4, 4, 3, cost], [full, full]), wish(7, [7, 7])]


def counter_acts():
    """Which act counts on depends on how many of the lowest bits turn from 1 to 0."""
    acts = []
    for number in range(1, 512):
        zeros = 0
        while number % 2 == 0:
            number = number // 2
            zeros = zeros + 1
        acts.append(0 if zeros < 3 else 1 if zeros < 6 else zeros - 4)
    return acts


if __name__ == "__main__":
    unittest.main()
