"""front: the amounts for which one more costs more or can't be had; -2 for no such store."""

import unittest

from lines import HIGHEST, act, ask, begins, front, last, start, wish


def fill(cost, brought, spilt=0, needed=0):
    return act([needed, 0, 0, 0, cost], [[0, 0, brought, spilt]])


def fill_both(cost, first, second):
    return act([0, 0, 0, 0, cost], [[0, 0, first, 1], [0, 0, second, 1]])


class NoSuchStore(unittest.TestCase):
    def test_with_no_stores(self):
        for store in (0, 1, 2, HIGHEST):
            self.assertEqual(ask(front(store)), [[-2]])
            self.assertEqual(last(begins(3, []), front(store)), [-2])

    def test_with_one_store(self):
        self.assertEqual(last(begins(1, [7]), front(0)), [1, 0, 0])
        for store in (1, 2, 7, 2 ** 31, HIGHEST):
            self.assertEqual(last(begins(1, [7]), front(store)), [-2])

    def test_with_two_stores(self):
        self.assertEqual(last(begins(1, [7, 7]), front(1)), [1, 0, 0])
        for store in (2, 3, 7, 2 ** 31, HIGHEST):
            self.assertEqual(last(begins(1, [7, 7]), front(store)), [-2])

    def test_also_where_all_as_wished_cannot_be_had(self):
        self.assertEqual(last(begins(1, [7]), wish(1, [0]), front(1)), [-2])

    def test_the_stores_of_a_begins_anew(self):
        house = [begins(1, [7, 7]), front(1), begins(1, [7]), front(1), begins(1, []), front(0)]
        self.assertEqual(ask(*house), [[0], [1, 0, 0], [0], [-2], [0], [-2]])


class CannotBeHad(unittest.TestCase):
    def test_a_wished_fact(self):
        self.assertEqual(last(begins(1, [5]), start(0, [5]), wish(1, [0]), front(0)), [0])

    def test_a_wished_amount_in_that_store(self):
        self.assertEqual(last(begins(1, [5]), fill(1, 2), wish(0, [5]), front(0)), [0])

    def test_a_wished_amount_in_the_other_store(self):
        house = [begins(1, [5, 5]), start(0, [5, 4]), wish(0, [0, 5])]
        self.assertEqual(last(*house, front(0)), [0])
        self.assertEqual(last(*house, front(1)), [0])


class Told(unittest.TestCase):
    def test_what_is_there_at_the_start_costs_nothing(self):
        for amount in range(6):
            self.assertEqual(last(begins(1, [5]), start(0, [amount]), front(0)), [1, amount, 0])

    def test_each_amount_at_its_cost(self):
        house = [begins(1, [3]), fill(2, 1)]
        self.assertEqual(last(*house, front(0)), [4, 0, 0, 1, 2, 2, 4, 3, 6])

    def test_only_where_one_more_costs_more(self):
        house = [begins(1, [7]), fill(2, 3)]
        self.assertEqual(last(*house, front(0)), [3, 0, 0, 3, 2, 6, 4])

    def test_the_room_where_it_can_be_had(self):
        house = [begins(1, [7]), fill(2, 3, 1)]
        self.assertEqual(last(*house, front(0)), [4, 0, 0, 3, 2, 6, 4, 7, 6])
        self.assertEqual(last(begins(1, [7]), fill(9, 7), front(0)), [2, 0, 0, 7, 9])
        self.assertEqual(last(begins(1, [1]), fill(1000, 1), front(0)), [2, 0, 0, 1, 1000])

    def test_more_that_costs_less_hides_what_is_below(self):
        house = [begins(1, [7]), fill(5, 2), fill(3, 4), fill(4, 1)]
        self.assertEqual(last(*house, front(0)), [5, 0, 0, 4, 3, 5, 7, 6, 8, 7, 12])

    def test_more_that_costs_as_much_hides_what_is_below(self):
        house = [begins(1, [7]), fill(5, 2), fill(5, 4)]
        self.assertEqual(last(*house, front(0)), [3, 0, 0, 4, 5, 6, 10])

    def test_drawing_from_it_to_have_all_as_wished(self):
        house = [begins(1, [7]), act([0, 0, 1, 0, 3], [[0, 2, 0, 0]]), fill(4, 1), start(0, [6]), wish(1, [0])]
        self.assertEqual(last(*house, front(0)), [4, 4, 3, 5, 7, 6, 11, 7, 15])

    def test_an_amount_that_is_had_only_ahead_of_all_as_wished_is_not_told(self):
        house = [begins(1, [7]), act([0, 1, 1, 0, 3], [[0, 5, 0, 0]]), start(0, [7]), wish(1, [0])]
        self.assertEqual(last(*house, front(0)), [1, 2, 3])

    def test_facts_that_are_not_wished_do_not_matter(self):
        house = [begins(2, [4]), act([0, 0, 1, 0, 5], [[0] * 4]), fill(1, 4, 0, 1), wish(0, [0])]
        self.assertEqual(last(*house, front(0)), [2, 0, 0, 4, 6])
        house = [begins(2, [4]), act([0, 0, 1, 0, 5], [[0] * 4]), fill(1, 4, 0, 1), wish(1, [0])]
        self.assertEqual(last(*house, front(0)), [2, 0, 5, 4, 6])

    def test_the_cost_counts_not_the_acts(self):
        house = [begins(1, [3]), fill(9, 3), fill(3, 1)]
        self.assertEqual(last(*house, front(0)), [4, 0, 0, 1, 3, 2, 6, 3, 9])
        house = [begins(1, [3]), fill(8, 3), fill(3, 1)]
        self.assertEqual(last(*house, front(0)), [4, 0, 0, 1, 3, 2, 6, 3, 8])
        house = [begins(1, [3]), fill(6, 3), fill(3, 1)]
        self.assertEqual(last(*house, front(0)), [3, 0, 0, 1, 3, 3, 6])


class WithAWish(unittest.TestCase):
    def test_in_that_same_store(self):
        house = [begins(1, [5]), fill(2, 1)]
        self.assertEqual(last(*house, wish(0, [3]), front(0)), [3, 3, 6, 4, 8, 5, 10])
        self.assertEqual(last(*house, wish(0, [5]), front(0)), [1, 5, 10])

    def test_in_that_same_store_less_than_is_told_first(self):
        house = [begins(1, [7]), fill(2, 3), wish(0, [1])]
        self.assertEqual(last(*house, front(0)), [2, 3, 2, 6, 4])

    def test_in_the_other_store(self):
        house = [begins(1, [3, 3]), fill_both(1, 1, 0), fill_both(2, 0, 1), wish(0, [0, 2])]
        self.assertEqual(last(*house, front(0)), [4, 0, 4, 1, 5, 2, 6, 3, 7])
        self.assertEqual(last(*house, front(1)), [2, 2, 4, 3, 6])

    def test_in_both(self):
        house = [begins(1, [3, 3]), fill_both(1, 1, 0), fill_both(2, 0, 1), wish(0, [2, 1])]
        self.assertEqual(last(*house, front(0)), [2, 2, 4, 3, 5])
        self.assertEqual(last(*house, front(1)), [3, 1, 4, 2, 6, 3, 8])

    def test_one_store_is_drawn_on_for_the_other(self):
        house = [begins(1, [6, 3]), act([0, 0, 0, 0, 5], [[0, 2, 0, 0], [0, 0, 1, 0]]), start(0, [6, 0])]
        self.assertEqual(last(*house, front(0)), [1, 6, 0])
        self.assertEqual(last(*house, front(1)), [4, 0, 0, 1, 5, 2, 10, 3, 15])
        self.assertEqual(last(*house, wish(0, [0, 2]), front(0)), [1, 2, 10])
        self.assertEqual(last(*house, wish(0, [2, 0]), front(1)), [3, 0, 0, 1, 5, 2, 10])
        self.assertEqual(last(*house, wish(0, [3, 2]), front(1)), [0])

    def test_rooms_of_their_own(self):
        house = [begins(1, [2, 7]), fill_both(1, 1, 1)]
        self.assertEqual(last(*house, front(0)), [3, 0, 0, 1, 1, 2, 2])
        self.assertEqual(last(*house, front(1)), [8, 0, 0, 1, 1, 2, 2, 3, 3, 4, 4, 5, 5, 6, 6, 7, 7])


if __name__ == "__main__":
    unittest.main()
