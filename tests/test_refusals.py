"""Promise 1: when begins, act, start and wish refuse, and with which number."""

import unittest

from lines import HIGHEST, act, begins, firsts, start, wish

PLAIN = [0, 0, 0, 0, 1]
EMPTY = [0, 0, 0, 0]


def with_one(numbers, place, number):
    """A copy of numbers with another number at that place."""
    changed = list(numbers)
    changed[place] = number
    return changed


class Begins(unittest.TestCase):
    def assert_begins(self, facts, rooms, expected):
        self.assertEqual(firsts(begins(facts, rooms)), [expected], (facts, rooms))

    def test_how_many_facts(self):
        for rooms in ([], [1], [7, 7]):
            for facts in (1, 2, 3):
                self.assert_begins(facts, rooms, 0)
            for facts in (0, 4, 5, 7, 8, 2 ** 31, HIGHEST):
                self.assert_begins(facts, rooms, -1)

    def test_how_many_stores(self):
        self.assert_begins(1, [], 0)
        self.assert_begins(1, [1], 0)
        self.assert_begins(1, [1, 1], 0)
        for how_many in (3, 4, 5, 39, 40):
            self.assert_begins(1, [1] * how_many, -1)

    def test_each_room(self):
        for room in range(1, 8):
            self.assert_begins(3, [room], 0)
            self.assert_begins(3, [room, 8 - room], 0)
        for room in (0, 8, 9, 2 ** 31, HIGHEST):
            self.assert_begins(3, [room], -1)
            self.assert_begins(3, [room, 1], -1)
            self.assert_begins(3, [1, room], -1)
            self.assert_begins(3, [room, room], -1)

    def test_more_than_one_thing_wrong(self):
        self.assert_begins(0, [0], -1)
        self.assert_begins(4, [8, 0, 1], -1)
        self.assert_begins(HIGHEST, [HIGHEST] * 40, -1)


class ActsFactsAndCost(unittest.TestCase):
    def assert_act(self, facts, numbers, expected):
        self.assertEqual(firsts(begins(facts, []), act(numbers, [])), [0, expected], (facts, numbers))

    def test_how_many_numbers(self):
        self.assert_act(1, [0, 0, 0, 1, 1], 0)
        self.assert_act(1, [], -1)
        self.assert_act(1, [1], -1)
        self.assert_act(1, [0, 0, 0, 1], -1)
        self.assert_act(1, [0, 0, 0, 1, 1, 1], -1)
        self.assert_act(1, [0, 0, 0, 1, 1, 0], -1)
        self.assert_act(1, [1] * 40, -1)

    def test_each_set_of_facts(self):
        for facts in (1, 2, 3):
            for place in range(4):
                for told in range(2 ** facts):
                    self.assert_act(facts, with_one(PLAIN, place, told), 0)
                for told in (2 ** facts, 2 ** facts + 1, 2 ** (facts + 1), 16, 2 ** 31, HIGHEST - 7, HIGHEST):
                    self.assert_act(facts, with_one(PLAIN, place, told), -1)

    def test_one_fact_at_several_places(self):
        self.assert_act(3, [7, 7, 7, 7, 1], 0)
        self.assert_act(2, [3, 3, 3, 3, 1], 0)
        self.assert_act(2, [3, 3, 3, 4, 1], -1)

    def test_cost(self):
        for cost in (1, 2, 8, 999, 1000):
            self.assert_act(1, [0, 0, 0, 0, cost], 0)
        for cost in (0, 1001, 2 ** 31, HIGHEST):
            self.assert_act(1, [0, 0, 0, 0, cost], -1)


class ActsStores(unittest.TestCase):
    def assert_act(self, rooms, stores, expected):
        self.assertEqual(firsts(begins(1, rooms), act(PLAIN, stores)), [0, expected], (rooms, stores))

    def test_how_many_lists(self):
        for rooms in ([], [7], [7, 7]):
            for how_many in range(5):
                expected = 0 if how_many == len(rooms) else -1
                self.assert_act(rooms, [EMPTY] * how_many, expected)

    def test_how_many_numbers_for_a_store(self):
        for wrong in ([], [0], [0, 0, 0], [1, 1, 1], [0, 0, 0, 0, 0], [1, 1, 1, 1, 1], [0] * 40):
            self.assert_act([7], [wrong], -1)
            self.assert_act([7, 7], [wrong, EMPTY], -1)
            self.assert_act([7, 7], [EMPTY, wrong], -1)
        self.assert_act([7, 7], [[0, 0, 0], [0, 0, 0, 0, 0]], -1)

    def test_each_number_up_to_the_room(self):
        for room in range(1, 8):
            for place in range(3):
                for told in range(room + 1):
                    self.assert_act([room], [with_one(EMPTY, place, told)], 0)
                for told in (room + 1, room + 2, 8, 2 ** 31, HIGHEST):
                    self.assert_act([room], [with_one(EMPTY, place, told)], -1)

    def test_each_store_has_its_own_room(self):
        for place in range(3):
            two, five = with_one(EMPTY, place, 2), with_one(EMPTY, place, 5)
            self.assert_act([5, 2], [five, two], 0)
            self.assert_act([5, 2], [two, five], -1)
            self.assert_act([2, 5], [two, five], 0)
            self.assert_act([2, 5], [five, two], -1)
            self.assert_act([5, 2], [EMPTY, with_one(EMPTY, place, HIGHEST)], -1)

    def test_all_numbers_at_the_room(self):
        self.assert_act([3, 7], [[3, 3, 3, 1], [7, 7, 7, 1]], 0)
        self.assert_act([3, 7], [[3, 3, 3, 0], [7, 7, 7, 0]], 0)

    def test_more_taken_than_has_to_be_there(self):
        self.assert_act([4], [[1, 4, 0, 0]], 0)

    def test_the_last_number(self):
        for room in (1, 2, 7):
            for last in (0, 1):
                self.assert_act([room], [[0, 0, 0, last]], 0)
                self.assert_act([room, room], [[0, 0, 0, last], [1, 1, 1, 1 - last]], 0)
            for last in (2, 3, 7, 8, 2 ** 31, HIGHEST):
                self.assert_act([room], [[0, 0, 0, last]], -1)
                self.assert_act([room, room], [[0, 0, 0, last], EMPTY], -1)
                self.assert_act([room, room], [EMPTY, [0, 0, 0, last]], -1)


class TheNinthAct(unittest.TestCase):
    def after_eight(self, ninth):
        given = firsts(begins(2, [3]), *[act(PLAIN, [EMPTY])] * 8, ninth)
        self.assertEqual(given[:9], [0, 0, 1, 2, 3, 4, 5, 6, 7])
        return given[9]

    def test_a_right_one(self):
        self.assertEqual(self.after_eight(act(PLAIN, [EMPTY])), -7)

    def test_wrong_ones(self):
        for wrong in (act([], []), act(PLAIN, []), act(PLAIN, [EMPTY, EMPTY]), act([4, 0, 0, 0, 1], [EMPTY]),
                      act([0, 0, 0, 0, 0], [EMPTY]), act([0, 0, 0, 0, 1001], [EMPTY]), act(PLAIN, [[4, 0, 0, 0]]),
                      act(PLAIN, [[0, 0, 0, 2]]), act([HIGHEST] * 40, [[HIGHEST] * 40] * 4)):
            self.assertEqual(self.after_eight(wrong), -7)

    def test_the_eighth_is_refused_if_wrong_and_taken_if_right(self):
        seven = [act(PLAIN, [])] * 7
        self.assertEqual(
            firsts(*seven, act([2, 0, 0, 0, 1], []), act(PLAIN, []), act(PLAIN, [])),
            [0, 1, 2, 3, 4, 5, 6, -1, 7, -7])

    def test_it_stays_full(self):
        self.assertEqual(
            firsts(*[act(PLAIN, [])] * 10, start(1, []), wish(1, []), act(PLAIN, [])),
            [0, 1, 2, 3, 4, 5, 6, 7, -7, -7, 0, 0, -7])


class StartAndWish(unittest.TestCase):
    def assert_both(self, facts, rooms, told, amounts, expected):
        for call in (start, wish):
            self.assertEqual(firsts(begins(facts, rooms), call(told, amounts)), [0, expected],
                             (call, facts, rooms, told, amounts))

    def test_facts(self):
        for facts in (1, 2, 3):
            for told in range(2 ** facts):
                self.assert_both(facts, [], told, [], 0)
                self.assert_both(facts, [2, 2], told, [1, 2], 0)
            for told in (2 ** facts, 2 ** facts + 1, 2 ** (facts + 1), 16, 2 ** 31, HIGHEST - 7, HIGHEST):
                self.assert_both(facts, [], told, [], -1)
                self.assert_both(facts, [2, 2], told, [1, 2], -1)

    def test_how_many_amounts(self):
        for rooms in ([], [7], [7, 7]):
            for how_many in (0, 1, 2, 3, 4, 39, 40):
                expected = 0 if how_many == len(rooms) else -1
                self.assert_both(1, rooms, 0, [0] * how_many, expected)

    def test_each_amount_up_to_the_room(self):
        for room in range(1, 8):
            for amount in range(room + 1):
                self.assert_both(1, [room], 0, [amount], 0)
                self.assert_both(1, [room, 1], 0, [amount, 1], 0)
                self.assert_both(1, [1, room], 0, [1, amount], 0)
            for amount in (room + 1, room + 2, 8, 2 ** 31, HIGHEST):
                self.assert_both(1, [room], 0, [amount], -1)
                self.assert_both(1, [room, 1], 0, [amount, 1], -1)
                self.assert_both(1, [1, room], 0, [1, amount], -1)

    def test_each_store_has_its_own_room(self):
        self.assert_both(1, [5, 2], 0, [5, 2], 0)
        self.assert_both(1, [5, 2], 0, [2, 5], -1)
        self.assert_both(1, [2, 5], 0, [5, 2], -1)

    def test_more_than_one_thing_wrong(self):
        self.assert_both(1, [5], HIGHEST, [HIGHEST, HIGHEST], -1)


class AfterARefusal(unittest.TestCase):
    def test_begins_refused_leaves_facts_rooms_and_acts(self):
        for refused in (begins(0, []), begins(4, []), begins(1, [1, 1, 1]), begins(3, [0]), begins(3, [8]),
                        begins(3, [7, 8]), begins(3, [0, 7]), begins(HIGHEST, [7]), begins(3, [7, HIGHEST])):
            self.assertEqual(
                firsts(begins(2, [5, 3]), act(PLAIN, [EMPTY, EMPTY]), refused,
                       act([3, 0, 0, 0, 1], [[5, 0, 0, 0], [3, 0, 0, 0]]),
                       start(3, [5, 3]), start(4, [5, 3]), start(3, [6, 3]), start(3, [5, 4]), start(3, [5]),
                       wish(3, [5, 3]), wish(4, [5, 3]), wish(3, [6, 3]), wish(3, [5, 4]), wish(3, []),
                       act(PLAIN, [EMPTY, EMPTY])),
                [0, 0, -1, 1, 0, -1, -1, -1, -1, 0, -1, -1, -1, -1, 2], refused)

    def test_begins_refused_at_the_beginning(self):
        self.assertEqual(
            firsts(begins(4, [7]), begins(3, [8]), start(2, []), start(1, []), start(0, [0]), act(PLAIN, [])),
            [-1, -1, -1, 0, -1, 0])

    def test_begins_refused_leaves_it_full(self):
        self.assertEqual(firsts(*[act(PLAIN, [])] * 8, begins(0, []), act(PLAIN, []))[8:], [-1, -7])

    def test_a_refused_act_takes_no_number(self):
        for refused in (act([], [EMPTY]), act(PLAIN, []), act(PLAIN, [EMPTY, EMPTY]), act([4, 0, 0, 0, 1], [EMPTY]),
                        act([0, 0, 0, 0, 0], [EMPTY]), act(PLAIN, [[4, 0, 0, 0]]), act(PLAIN, [[0, 0, 0, 2]])):
            self.assertEqual(
                firsts(begins(2, [3]), refused, act(PLAIN, [EMPTY]), refused, refused, act(PLAIN, [EMPTY])),
                [0, -1, 0, -1, -1, 1], refused)

    def test_start_and_wish_refused_leave_facts_rooms_and_acts(self):
        for call in (start, wish):
            for refused in (call(4, [3]), call(0, [4]), call(0, []), call(0, [3, 3]), call(HIGHEST, [HIGHEST])):
                self.assertEqual(
                    firsts(begins(2, [3]), act(PLAIN, [EMPTY]), refused, act([3, 0, 0, 0, 1], [[3, 3, 3, 1]]),
                           start(3, [3]), start(4, [3]), start(3, [4]), wish(3, [3]), wish(4, [3]), wish(3, [4])),
                    [0, 0, -1, 1, 0, -1, -1, 0, -1, -1], refused)


if __name__ == "__main__":
    unittest.main()
