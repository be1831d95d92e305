"""What a house keeps of what is told, and that what asks alone leaves it so."""

import unittest

from lines import HIGHEST, act, begins, check, front, laid, plan, reach, start, wish
from tankplans.house import House, UnknownCall, answer_call, answers
from tankplans.reading import Reader

PLAIN = [0, 0, 0, 0, 1]


def tell(house, *calls):
    reader = Reader(laid(calls))
    given = []
    while reader.has_more():
        given.append(answer_call(house, reader.read_call())[0])
    return given


def seen_act(told):
    return ([told.needed, told.barred, told.brought, told.taken, told.cost], [list(store) for store in told.stores])


def seen(house):
    """A copy of all that a house keeps."""
    return {
        "facts": house.fact_count, "rooms": list(house.rooms),
        "so": house.so, "amounts": list(house.amounts),
        "wished": house.wished_facts, "least": list(house.wished_amounts),
        "acts": [seen_act(told) for told in house.acts],
    }


def bare(facts, rooms):
    none = [0] * len(rooms)
    return {"facts": facts, "rooms": rooms, "so": 0, "amounts": none, "wished": 0, "least": none, "acts": []}


def furnished():
    house = House()
    tell(house, begins(2, [5, 3]), act([1, 2, 3, 0, 9], [[1, 2, 3, 1], [3, 2, 1, 0]]), start(2, [4, 1]),
         wish(1, [3, 2]))
    return house


class Kept(unittest.TestCase):
    def test_at_its_beginning(self):
        self.assertEqual(seen(House()), bare(1, []))

    def test_what_was_told(self):
        expected = {"facts": 2, "rooms": [5, 3], "so": 2, "amounts": [4, 1], "wished": 1, "least": [3, 2],
                    "acts": [([1, 2, 3, 0, 9], [[1, 2, 3, 1], [3, 2, 1, 0]])]}
        self.assertEqual(seen(furnished()), expected)

    def test_begins_again_lays_all_anew(self):
        for facts, rooms in ((1, []), (3, [7]), (2, [5, 3])):
            house = furnished()
            self.assertEqual(tell(house, begins(facts, rooms)), [0])
            self.assertEqual(seen(house), bare(facts, rooms))

    def test_start_and_wish_told_again(self):
        house = furnished()
        expected = dict(seen(house), so=3, amounts=[0, 3], wished=0, least=[5, 0])
        tell(house, start(3, [0, 3]), wish(0, [5, 0]))
        self.assertEqual(seen(house), expected)

    def test_a_refusal_leaves_all_as_it_was(self):
        two = [[0, 0, 0, 0], [0, 0, 0, 0]]
        for refused in (begins(0, []), begins(4, [1]), begins(1, [1, 1, 1]), begins(1, [1, 8]), begins(1, [0]),
                        act([0, 0, 0, 4, 1], two), act([0, 0, 0, 0, 0], two), act(PLAIN, two[:1]),
                        act(PLAIN, [[0, 0, 0, 0], [0, 0, 4, 0]]), act(PLAIN, [[0, 0, 0, 0], [0, 0, 0, 2]]),
                        start(4, [0, 0]), start(0, [0, 4]), start(0, [0]), start(0, [0, 0, 0]),
                        wish(4, [0, 0]), wish(0, [0, 4]), wish(0, [0]), wish(0, [0, 0, 0]),
                        start(HIGHEST, [0, 0]), wish(0, [HIGHEST, 0])):
            house = furnished()
            before = seen(house)
            self.assertEqual(tell(house, refused), [-1], refused)
            self.assertEqual(seen(house), before, refused)

    def test_a_ninth_act_leaves_all_as_it_was(self):
        house = furnished()
        tell(house, *[act(PLAIN, [[0, 0, 0, 0], [0, 0, 0, 0]])] * 7)
        before = seen(house)
        self.assertEqual(tell(house, act([1, 1, 1, 1, 2], [[0, 0, 0, 0], [0, 0, 0, 0]])), [-7])
        self.assertEqual(seen(house), before)

    def test_what_asks_leaves_all_as_it_was(self):
        house = furnished()
        tell(house, act([0, 2, 2, 1, 3], [[0, 1, 0, 0], [0, 0, 1, 1]]), act(PLAIN, [[0, 0, 2, 1], [0, 0, 0, 0]]))
        before = seen(house)
        for asked in (plan(), front(0), front(1), front(2), check([]), check([2, 2]), check([2, 0, 9]), reach()):
            tell(house, asked)
            self.assertEqual(seen(house), before, asked)

    def test_the_lists_kept_are_not_shared(self):
        house = House()
        tell(house, begins(1, [2, 2]))
        house.amounts[0] = 1
        self.assertEqual((house.wished_amounts, house.rooms), ([0, 0], [2, 2]))

    def test_a_number_of_no_call_is_not_taken_for_another(self):
        with self.assertRaises(UnknownCall):
            answers([8, 0, 0])


if __name__ == "__main__":
    unittest.main()
