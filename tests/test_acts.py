"""When an act may be done and what is behind it, seen by check, plan and reach alike."""

import unittest

from lines import act, begins, check, last, plan, reach, start, wish

NONE = [0, 0, 0, 0]


def done_once(facts, rooms, numbers, stores, so, amounts):
    """The state behind the one act, or None if it may not be done; plan and reach have to say the same."""
    house = [begins(facts, rooms), act(numbers, stores), start(so, amounts)]
    told = last(*house, check([0]))
    if told[0] == -5:
        if told != [-5, 0, so] + amounts:
            raise AssertionError(told)
        if last(*house, reach()) != [1]:
            raise AssertionError("it is reached though the act may not be done")
        return None
    if told[0] != numbers[4]:
        raise AssertionError(told)
    behind = told[1:]
    stays = behind == [so] + amounts
    if last(*house, reach()) == [1] and not stays:
        raise AssertionError("it is not reached though the act may be done")
    if last(*house, wish(behind[0], behind[1:]), check([0])) != told:
        raise AssertionError("the state behind is not as wished, though just that is wished")
    return behind


class Facts(unittest.TestCase):
    def behind(self, needed, barred, brought, taken, so):
        told = done_once(3, [], [needed, barred, brought, taken, 5], [], so, [])
        return None if told is None else told[0]

    def test_what_has_to_be_so(self):
        for needed in range(8):
            for so in range(8):
                expected = so if all(so >> k & 1 for k in range(3) if needed >> k & 1) else None
                self.assertEqual(self.behind(needed, 0, 0, 0, so), expected, (needed, so))

    def test_what_must_not_be_so(self):
        for barred in range(8):
            for so in range(8):
                expected = None if any(so >> k & 1 for k in range(3) if barred >> k & 1) else so
                self.assertEqual(self.behind(0, barred, 0, 0, so), expected, (barred, so))

    def test_both_have_to_hold(self):
        self.assertEqual(self.behind(1, 2, 0, 0, 1), 1)
        self.assertEqual(self.behind(1, 2, 0, 0, 5), 5)
        for so in (0, 2, 3, 4, 6, 7):
            self.assertIsNone(self.behind(1, 2, 0, 0, so), so)

    def test_a_fact_that_has_to_be_so_and_must_not(self):
        for so in range(8):
            self.assertIsNone(self.behind(2, 2, 0, 0, so), so)

    def test_what_is_brought_and_taken_away(self):
        for brought in range(8):
            for taken in range(8):
                for so in range(8):
                    expected = sum(1 << k for k in range(3)
                                   if brought >> k & 1 or (so >> k & 1 and not taken >> k & 1))
                    self.assertEqual(self.behind(0, 0, brought, taken, so), expected, (brought, taken, so))

    def test_brought_and_taken_away_is_so(self):
        self.assertEqual(self.behind(0, 0, 1, 1, 0), 1)
        self.assertEqual(self.behind(0, 0, 1, 1, 1), 1)
        self.assertEqual(last(begins(1, []), act([0, 0, 1, 1, 9], []), wish(1, []), plan()), [9, 0])

    def test_what_it_needs_may_be_taken_away(self):
        self.assertEqual(self.behind(3, 4, 4, 3, 3), 4)

    def test_what_it_brings_is_not_there_ahead(self):
        self.assertIsNone(self.behind(1, 0, 1, 0, 0))

    def test_what_it_takes_away_is_there_ahead(self):
        self.assertIsNone(self.behind(0, 1, 0, 1, 1))


class OneStore(unittest.TestCase):
    def behind(self, room, store, amount):
        told = done_once(1, [room], [0, 0, 0, 0, 1], [store], 0, [amount])
        return None if told is None else told[1]

    def test_just_what_has_to_be_there_and_one_less(self):
        self.assertEqual(self.behind(5, [3, 0, 0, 0], 3), 3)
        self.assertEqual(self.behind(5, [3, 0, 0, 0], 4), 4)
        self.assertIsNone(self.behind(5, [3, 0, 0, 0], 2))
        self.assertIsNone(self.behind(5, [3, 0, 0, 1], 2))
        self.assertIsNone(self.behind(5, [3, 0, 5, 1], 2))

    def test_just_what_is_taken_and_one_less(self):
        self.assertEqual(self.behind(5, [0, 3, 0, 0], 3), 0)
        self.assertEqual(self.behind(5, [0, 3, 0, 0], 5), 2)
        self.assertIsNone(self.behind(5, [0, 3, 0, 0], 2))
        self.assertIsNone(self.behind(5, [0, 3, 0, 1], 2))

    def test_more_has_to_be_there_than_is_taken(self):
        self.assertIsNone(self.behind(7, [4, 2, 0, 0], 3))
        self.assertEqual(self.behind(7, [4, 2, 0, 0], 4), 2)

    def test_more_is_taken_than_has_to_be_there(self):
        self.assertIsNone(self.behind(7, [2, 4, 0, 0], 3))
        self.assertEqual(self.behind(7, [2, 4, 0, 0], 4), 0)

    def test_what_is_brought_does_not_help_to_take(self):
        self.assertIsNone(self.behind(7, [0, 4, 7, 0], 3))
        self.assertIsNone(self.behind(7, [0, 4, 7, 1], 3))
        self.assertIsNone(self.behind(7, [4, 0, 4, 0], 3))

    def test_just_the_room_and_one_more_not_spilt(self):
        self.assertEqual(self.behind(5, [0, 0, 2, 0], 3), 5)
        self.assertIsNone(self.behind(5, [0, 0, 2, 0], 4))
        self.assertEqual(self.behind(5, [0, 3, 5, 0], 3), 5)
        self.assertIsNone(self.behind(5, [0, 3, 5, 0], 4))

    def test_just_the_room_and_one_more_spilt(self):
        self.assertEqual(self.behind(5, [0, 0, 2, 1], 2), 4)
        self.assertEqual(self.behind(5, [0, 0, 2, 1], 3), 5)
        self.assertEqual(self.behind(5, [0, 0, 2, 1], 4), 5)
        self.assertEqual(self.behind(5, [0, 3, 5, 1], 4), 5)
        self.assertEqual(self.behind(7, [0, 0, 7, 1], 7), 7)

    def test_taking_comes_ahead_of_bringing(self):
        self.assertEqual(self.behind(7, [7, 7, 7, 0], 7), 7)
        self.assertEqual(self.behind(7, [0, 5, 4, 1], 7), 6)
        self.assertEqual(self.behind(7, [0, 5, 4, 0], 7), 6)

    def test_every_act_on_small_rooms(self):
        for room in (1, 2, 3):
            upto = range(room + 1)
            for least, taken, brought, amount in [(a, b, c, d) for a in upto for b in upto for c in upto for d in upto]:
                for spilt in (0, 1):
                    behind = amount - taken + brought
                    expected = behind
                    if behind > room:
                        expected = room if spilt else None
                    if amount < max(least, taken):
                        expected = None
                    store = [least, taken, brought, spilt]
                    self.assertEqual(self.behind(room, store, amount), expected, (room, store, amount))


class TwoStores(unittest.TestCase):
    def behind(self, stores, amounts):
        return done_once(2, [7, 3], [1, 2, 2, 1, 1], stores, 1, amounts)

    def test_each_store_has_its_own_numbers_and_room(self):
        self.assertEqual(self.behind([[1, 2, 3, 0], [0, 3, 1, 0]], [6, 3]), [2, 7, 1])
        self.assertEqual(self.behind([[0, 0, 7, 1], [0, 0, 3, 1]], [1, 1]), [2, 7, 3])

    def test_either_store_may_stand_in_the_way(self):
        self.assertIsNone(self.behind([[3, 0, 0, 0], NONE], [2, 3]))
        self.assertIsNone(self.behind([NONE, [3, 0, 0, 0]], [7, 2]))
        self.assertIsNone(self.behind([[0, 3, 0, 0], NONE], [2, 3]))
        self.assertIsNone(self.behind([NONE, [0, 3, 0, 0]], [7, 2]))
        self.assertIsNone(self.behind([[0, 0, 1, 0], NONE], [7, 0]))
        self.assertIsNone(self.behind([NONE, [0, 0, 1, 0]], [0, 3]))

    def test_one_spills_and_the_other_must_not(self):
        self.assertIsNone(self.behind([[0, 0, 1, 1], [0, 0, 1, 0]], [7, 3]))
        self.assertIsNone(self.behind([[0, 0, 1, 0], [0, 0, 1, 1]], [7, 3]))
        self.assertEqual(self.behind([[0, 0, 1, 1], [0, 0, 1, 0]], [7, 2]), [2, 7, 3])
        self.assertEqual(self.behind([[0, 0, 1, 0], [0, 0, 1, 1]], [6, 3]), [2, 7, 3])

    def test_the_facts_may_stand_in_the_way_alone(self):
        fits = [[1, 1, 1, 0], [1, 1, 1, 0]]
        self.assertEqual(done_once(2, [7, 3], [1, 2, 0, 0, 1], fits, 1, [2, 2]), [1, 2, 2])
        for so in (0, 2, 3):
            self.assertIsNone(done_once(2, [7, 3], [1, 2, 0, 0, 1], fits, so, [2, 2]))


if __name__ == "__main__":
    unittest.main()
