"""reach: how many states can be come to from the start, the start too."""

import unittest

from lines import act, ask, begins, last, reach, start, wish

NONE = [0, 0, 0, 0]
UP = [0, 0, 1, 0]
DOWN = [0, 1, 0, 0]


class Reach(unittest.TestCase):
    def test_with_no_acts(self):
        self.assertEqual(ask(reach()), [[1]])
        self.assertEqual(last(begins(3, [7, 7]), start(5, [3, 4]), reach()), [1])

    def test_acts_that_may_not_be_done(self):
        self.assertEqual(last(act([1, 0, 0, 0, 1], []), reach()), [1])
        self.assertEqual(last(begins(1, [3]), act([0, 0, 1, 0, 1], [[1, 0, 0, 0]]), reach()), [1])

    def test_the_start_is_counted_once(self):
        self.assertEqual(last(act([0, 0, 0, 0, 1], []), reach()), [1])
        self.assertEqual(last(act([0, 0, 1, 0, 1], []), act([0, 0, 0, 1, 1], []), reach()), [2])
        self.assertEqual(last(start(1, []), act([0, 0, 1, 0, 1], []), act([0, 0, 0, 1, 1], []), reach()), [2])

    def test_a_state_come_to_in_several_ways_is_counted_once(self):
        house = [begins(2, []), act([0, 0, 1, 0, 1], []), act([0, 0, 2, 0, 1], []), act([0, 0, 3, 0, 5], [])]
        self.assertEqual(last(*house, reach()), [4])

    def test_a_wish_does_not_matter(self):
        house = [begins(2, [3]), act([0, 0, 1, 0, 1], [NONE]), act([1, 0, 0, 0, 2], [UP])]
        for wished in (wish(0, [0]), wish(1, [0]), wish(2, [3]), wish(3, [1])):
            self.assertEqual(last(*house, wished, reach()), [5])

    def test_it_goes_on_behind_what_is_as_wished(self):
        house = [begins(1, [7]), act([0, 0, 0, 0, 1], [UP]), wish(0, [2])]
        self.assertEqual(last(*house, reach()), [8])

    def test_only_from_the_start(self):
        house = [begins(1, [7]), act([0, 0, 0, 0, 1], [UP])]
        for amount in range(8):
            self.assertEqual(last(*house, start(0, [amount]), reach()), [8 - amount])

    def test_rooms_bound_it(self):
        for room in range(1, 8):
            self.assertEqual(last(begins(1, [room]), act([0, 0, 0, 0, 1], [UP]), reach()), [room + 1])
            self.assertEqual(last(begins(1, [room, 2]), act([0, 0, 0, 0, 1], [[0, 0, 1, 1], UP]), reach()), [3])

    def test_steps_of_two(self):
        self.assertEqual(last(begins(1, [7]), act([0] * 4 + [1], [[0, 0, 2, 0]]), reach()), [4])
        self.assertEqual(last(begins(1, [7]), act([0] * 4 + [1], [[0, 0, 2, 1]]), reach()), [5])

    def test_facts_alone(self):
        for facts in (1, 2, 3):
            acts = [act([0, 0, 1 << fact, 0, 1], []) for fact in range(facts)]
            self.assertEqual(last(begins(facts, []), *acts, reach()), [1 << facts])

    def test_all_states_of_the_largest_house(self):
        house = [begins(3, [7, 7]), act([0, 0, 1, 0, 1], [NONE, NONE]), act([0, 0, 2, 0, 1], [NONE, NONE]),
                 act([0, 0, 4, 0, 1], [NONE, NONE]), act([0, 0, 0, 0, 1], [UP, NONE]),
                 act([0, 0, 0, 0, 1], [NONE, UP])]
        self.assertEqual(last(*house, reach()), [512])
        back = [act([0, 0, 0, 7, 1000], [NONE, NONE]), act([0] * 4 + [1], [DOWN, NONE]),
                act([0] * 4 + [1], [NONE, DOWN])]
        self.assertEqual(last(*house, start(7, [7, 7]), reach()), [1])
        self.assertEqual(last(*house, *back, start(7, [7, 7]), reach()), [512])


if __name__ == "__main__":
    unittest.main()
