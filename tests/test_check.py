"""check: what acts cost and the state behind them; -5 where one may not be done; -3 if it's not as wished."""

import unittest

from lines import HIGHEST, act, ask, begins, check, last, plan, start, wish

DRAW = act([0, 0, 1, 0, 10], [[0, 2, 0, 0], [0, 0, 1, 0]])
FILL = act([1, 0, 0, 1, 7], [[0, 0, 3, 0], [0, 0, 0, 0]])
HOUSE = [begins(2, [5, 3]), DRAW, FILL, start(2, [4, 0])]


class NoActs(unittest.TestCase):
    def test_as_wished(self):
        self.assertEqual(ask(check([])), [[0, 0]])
        self.assertEqual(last(*HOUSE, check([])), [0, 2, 4, 0])
        self.assertEqual(last(*HOUSE, wish(2, [4, 0]), check([])), [0, 2, 4, 0])

    def test_not_as_wished(self):
        self.assertEqual(last(wish(1, []), check([])), [-3, 0])
        self.assertEqual(last(*HOUSE, wish(1, [0, 0]), check([])), [-3, 2, 4, 0])
        self.assertEqual(last(*HOUSE, wish(0, [5, 0]), check([])), [-3, 2, 4, 0])
        self.assertEqual(last(*HOUSE, wish(0, [0, 1]), check([])), [-3, 2, 4, 0])


class AllDone(unittest.TestCase):
    def test_what_they_cost_and_the_state(self):
        self.assertEqual(last(*HOUSE, check([0])), [10, 3, 2, 1])
        self.assertEqual(last(*HOUSE, check([0, 1])), [17, 2, 5, 1])
        self.assertEqual(last(*HOUSE, check([0, 1, 0, 0])), [37, 3, 1, 3])

    def test_as_wished_behind_all_though_not_on_the_way(self):
        self.assertEqual(last(*HOUSE, wish(2, [5, 1]), check([0, 1])), [17, 2, 5, 1])

    def test_not_as_wished_behind_all_though_on_the_way(self):
        self.assertEqual(last(*HOUSE, wish(1, [0, 0]), check([0])), [10, 3, 2, 1])
        self.assertEqual(last(*HOUSE, wish(1, [0, 0]), check([0, 1])), [-3, 2, 5, 1])
        self.assertEqual(last(*HOUSE, wish(0, [3, 0]), check([0])), [-3, 3, 2, 1])
        self.assertEqual(last(*HOUSE, wish(0, [0, 2]), check([0, 1])), [-3, 2, 5, 1])

    def test_each_wished_thing_counts(self):
        for facts, amounts, expected in ((3, [2, 1], 10), (1, [2, 1], 10), (0, [0, 0], 10), (3, [3, 1], -3),
                                         (3, [2, 2], -3), (3, [5, 3], -3)):
            self.assertEqual(last(*HOUSE, wish(facts, amounts), check([0])), [expected, 3, 2, 1], (facts, amounts))

    def test_some_of_the_wished_facts_are_too_few(self):
        self.assertEqual(last(begins(3, []), start(5, []), wish(7, []), check([])), [-3, 5])
        self.assertEqual(last(begins(3, []), start(5, []), wish(5, []), check([])), [0, 5])
        self.assertEqual(last(begins(3, []), start(7, []), wish(5, []), check([])), [0, 7])

    def test_it_need_not_be_the_cheapest(self):
        house = [act([0, 0, 1, 0, 9], []), act([0, 0, 1, 0, 3], []), wish(1, [])]
        self.assertEqual(last(*house, plan()), [3, 1])
        self.assertEqual(last(*house, check([0])), [9, 1])
        self.assertEqual(last(*house, check([0, 1, 0])), [21, 1])

    def test_forty_acts(self):
        self.assertEqual(last(act([0, 0, 0, 0, 1000], []), check([0] * 40)), [40000, 0])

    def test_states_of_one_store_and_of_none(self):
        self.assertEqual(last(begins(3, [6]), start(5, [4]), check([])), [0, 5, 4])
        self.assertEqual(last(begins(3, []), start(6, []), check([])), [0, 6])


class OneMayNotBeDone(unittest.TestCase):
    def test_at_the_first(self):
        self.assertEqual(last(*HOUSE, check([1])), [-5, 0, 2, 4, 0])
        self.assertEqual(last(*HOUSE, check([1, 0, 0])), [-5, 0, 2, 4, 0])

    def test_in_the_middle(self):
        self.assertEqual(last(*HOUSE, check([0, 1, 1, 0])), [-5, 2, 2, 5, 1])

    def test_at_the_last(self):
        self.assertEqual(last(*HOUSE, check([0, 1, 0, 0, 0])), [-5, 4, 3, 1, 3])

    def test_at_the_fortieth(self):
        house = [begins(1, [2]), act([0] * 4 + [1], [[0, 0, 1, 0]]), act([0] * 4 + [1], [[0, 1, 0, 0]])]
        self.assertEqual(last(*house, check([0, 1] * 19 + [0, 0])), [40, 0, 2])
        self.assertEqual(last(*house, check([0, 1] * 19 + [0, 2])), [-5, 39, 0, 1])
        self.assertEqual(last(*house, check([0, 1] * 18 + [0, 0, 1, 1])), [40, 0, 0])
        self.assertEqual(last(*house, check([0, 0] + [1, 0] * 18 + [1, 1])), [40, 0, 0])
        self.assertEqual(last(*house, check([0, 0] + [1, 0] * 18 + [0, 1])), [-5, 38, 0, 2])

    def test_an_act_that_there_is_not(self):
        for number in (2, 3, 7, 8, 2 ** 31, HIGHEST):
            self.assertEqual(last(*HOUSE, check([number])), [-5, 0, 2, 4, 0], number)
            self.assertEqual(last(*HOUSE, check([0, number, 1])), [-5, 1, 3, 2, 1], number)
            self.assertEqual(last(*HOUSE, check([0, 1, number])), [-5, 2, 2, 5, 1], number)

    def test_where_there_are_no_acts(self):
        for number in (0, 1, HIGHEST):
            self.assertEqual(ask(check([number])), [[-5, 0, 0]])

    def test_a_refused_act_is_not_there(self):
        self.assertEqual(ask(act([2, 0, 0, 0, 1], []), check([0])), [[-1], [-5, 0, 0]])

    def test_an_act_of_before_a_begins_anew_is_not_there(self):
        house = [act([0] * 4 + [1], []), check([0]), begins(1, []), check([0])]
        self.assertEqual(ask(*house), [[0], [1, 0], [0], [-5, 0, 0]])

    def test_it_comes_before_not_as_wished(self):
        self.assertEqual(last(*HOUSE, wish(3, [5, 3]), check([1])), [-5, 0, 2, 4, 0])
        self.assertEqual(last(*HOUSE, wish(3, [5, 3]), check([0, 1, 1])), [-5, 2, 2, 5, 1])
        self.assertEqual(last(*HOUSE, wish(3, [5, 3]), check([0, HIGHEST])), [-5, 1, 3, 2, 1])

    def test_it_comes_also_where_all_is_as_wished_already(self):
        self.assertEqual(last(*HOUSE, wish(2, [4, 0]), check([1])), [-5, 0, 2, 4, 0])
        self.assertEqual(last(*HOUSE, wish(1, [0, 0]), check([0, 9])), [-5, 1, 3, 2, 1])


class NothingIsChanged(unittest.TestCase):
    def test_the_start_stays(self):
        lists = [[0], [0, 1], [0, 1, 0, 0, 0], [1], [9], []]
        once = [last(*HOUSE, check(acts)) for acts in lists]
        calls = [check(acts) for acts in lists]
        self.assertEqual(ask(*HOUSE, *calls, *calls)[len(HOUSE):], once + once)

    def test_the_wish_stays(self):
        given = ask(*HOUSE, wish(1, [0, 0]), check([0]), check([0, 1]), check([7]), check([0]), plan())
        self.assertEqual(given[len(HOUSE) + 1:],
                         [[10, 3, 2, 1], [-3, 2, 5, 1], [-5, 0, 2, 4, 0], [10, 3, 2, 1], [10, 0]])

    def test_the_acts_stay(self):
        self.assertEqual(last(*HOUSE, check([2, 2]), act([0] * 4 + [4], [[0] * 4] * 2)), [2])


if __name__ == "__main__":
    unittest.main()
