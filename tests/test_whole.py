"""Whole lines: what asks leaves the house as it was, the largest lines, and lists handed in twice."""

import unittest

from lines import HIGHEST, act, ask, begins, check, front, laid, plan, reach, start, wish
from tankplans.house import answers

NONE = [0, 0, 0, 0]
PUMP = act([1, 0, 0, 0, 4], [[0, 0, 2, 1], NONE])
POUR = act([0, 0, 0, 0, 3], [[0, 2, 0, 0], [0, 0, 1, 0]])
SWITCH = act([0, 1, 1, 0, 5], [NONE, NONE])
HOUSE = [begins(2, [5, 3]), PUMP, POUR, SWITCH, start(0, [1, 0]), wish(0, [0, 2])]


class LeftAsItWas(unittest.TestCase):
    def test_worked_out_by_hand(self):
        # Behind SWITCH, the first store holds 1, 3 or 5, as PUMP and POUR change it by 2.
        given = ask(*HOUSE, plan(), front(0), front(1), check([2, 0, 1]), check([0]), check([2, 0, 0, 1, 1]), reach())
        self.assertEqual(given[len(HOUSE):], [
            [19, 2, 0, 0, 1, 1],
            [3, 1, 19, 3, 23, 5, 27],
            [2, 2, 19, 3, 26],
            [-3, 1, 1, 1], [-5, 0, 0, 1, 0], [19, 1, 1, 2], [1 + 3 * 4]])

    def test_asked_again_it_answers_the_same(self):
        for asked in (plan(), front(0), front(1), front(2), check([2, 0, 1]), check([5]), reach()):
            given = ask(*HOUSE, *[asked] * 6)[len(HOUSE):]
            self.assertEqual(given, [given[0]] * 6, asked)

    def test_none_matters_for_another(self):
        kinds = [plan(), front(0), front(1), front(9), check([2, 0]), check([0]), reach()]
        alone = [ask(*HOUSE, asked)[-1] for asked in kinds]
        for place, asked in enumerate(kinds):
            for other, before in enumerate(kinds):
                given = ask(*HOUSE, before, asked, before)[len(HOUSE):]
                self.assertEqual(given, [alone[other], alone[place], alone[other]], (before, asked))

    def test_refusals_between_them(self):
        asked = [plan(), front(1), check([2, 0, 1])]
        refused = [begins(4, []), begins(1, [8]), act([4, 0, 0, 0, 1], [NONE, NONE]), act([0, 0, 0, 0, 1], [NONE]),
                   start(4, [0, 0]), start(3, [6, 0]), wish(4, [0, 0]), wish(0, [0, 4]), wish(0, [HIGHEST, 0])]
        once = ask(*HOUSE, *asked)[len(HOUSE):]
        given = ask(*HOUSE, *asked, *refused, *asked)[len(HOUSE):]
        self.assertEqual(given, once + [[-1]] * len(refused) + once)

    def test_start_and_wish_between_them(self):
        given = ask(*HOUSE, plan(), start(1, [5, 0]), plan(), wish(2, [0, 0]), plan(), wish(1, [5, 1]), plan(),
                    start(0, [1, 0]), wish(0, [0, 2]), plan())
        self.assertEqual([told for told in given[len(HOUSE):] if told != [0]],
                         [[19, 2, 0, 0, 1, 1], [6, 1, 1], [-6], [7, 1, 0], [19, 2, 0, 0, 1, 1]])

    def test_further_acts_between_them(self):
        more = act([0, 0, 0, 0, 2], [NONE, [0, 0, 1, 0]])
        given = ask(*HOUSE, plan(), front(1), more, plan(), front(1), check([3]), check([4]))[len(HOUSE):]
        self.assertEqual(given, [[19, 2, 0, 0, 1, 1], [2, 2, 19, 3, 26], [3], [4, 3, 3], [2, 2, 4, 3, 6],
                                 [-3, 0, 1, 1], [-5, 0, 0, 1, 0]])

    def test_behind_a_begins_anew(self):
        given = ask(*HOUSE, plan(), begins(2, [5, 3]), plan(), reach(), check([]), check([0]), front(0), *HOUSE,
                    plan())[len(HOUSE):]
        self.assertEqual(given[:7], [[19, 2, 0, 0, 1, 1], [0], [0], [1], [0, 0, 0, 0], [-5, 0, 0, 0, 0], [1, 0, 0]])
        self.assertEqual(given[-1], [19, 2, 0, 0, 1, 1])

    def test_a_begins_anew_takes_start_and_wish_back(self):
        given = ask(begins(3, [7]), start(5, [6]), wish(2, [7]), check([]), begins(3, [7]), check([]), wish(1, [0]),
                    check([]), begins(1, []), check([]))
        self.assertEqual(given, [[0], [0], [0], [-3, 5, 6], [0], [0, 0, 0], [0], [-3, 0, 0], [0], [0, 0]])


def largest_acts():
    """Eight acts by which all 512 states are come to."""
    up = [0, 0, 1, 0]
    return [act([0, 1, 1, 0, 1000], [NONE, NONE]), act([0, 2, 2, 0, 999], [NONE, NONE]),
            act([0, 4, 4, 0, 998], [NONE, NONE]), act([7, 0, 0, 7, 997], [NONE, NONE]),
            act([0, 0, 0, 0, 1000], [up, NONE]), act([0, 0, 0, 0, 1000], [NONE, up]),
            act([0, 0, 0, 0, 1], [[7, 7, 0, 0], NONE]), act([0, 0, 0, 0, 1], [NONE, [7, 7, 0, 0]])]


class Example(unittest.TestCase):
    def test_the_one_of_the_readme(self):
        calls = [0, 1, 2, 1, 1, 5,
                 1, 0, 2, 5, 1, 0, 2, 0, 10, 4, 0, 1, 0, 0,
                 1, 0, 2, 5, 0, 0, 0, 0, 3, 4, 0, 0, 2, 1,
                 2, 1, 1, 1, 1, 4,
                 3, 1, 2, 1, 1, 4,
                 4, 0, 0,
                 5, 1, 0, 0,
                 6, 0, 1, 2, 0, 0,
                 7, 0, 0]
        self.assertEqual(answers(calls), [1, 0, 1, 0, 1, 1, 1, 0, 1, 0, 3, 13, 0, 1, 3, 1, 5, 13, 3, -3, 3, 2, 1, 8])


class Largest(unittest.TestCase):
    def test_six_calls_that_look_for_ways(self):
        house = [begins(3, [7, 7])] + largest_acts() + [wish(7, [7, 7])]
        given = ask(*house, plan(), front(0), front(1), reach(), plan(), reach())[len(house):]
        planned = [1000 + 999 + 998 + 14000, 0, 1, 2] + [4] * 7 + [5] * 7
        self.assertEqual(given, [planned, [1, 7, 16997], [1, 7, 16997], [512], planned, [512]])

    def test_sixty_calls(self):
        house = [begins(3, [7, 7])] + largest_acts() + [wish(7, [0, 7])]
        asked = [plan(), front(0), front(1), reach(), front(0), plan()]
        checked = [check([4, 5] * 20)] * (60 - len(house) - len(asked))
        calls = house + checked + asked
        self.assertEqual(len(calls), 60)
        given = ask(*calls)[len(house):]
        self.assertEqual(given[:len(checked)], [[-5, 14, 0, 7, 7]] * len(checked))
        planned = [2997 + 7000, 0, 1, 2] + [5] * 7
        whole_front = [8] + [number for amount in range(8) for number in (amount, 9997 + 1000 * amount)]
        self.assertEqual(given[len(checked):], [planned, whole_front, [1, 7, 9997], [512], whole_front, planned])

    def test_sixty_calls_with_the_longest_lists(self):
        forty = [HIGHEST] * 40
        calls = [act(forty, [forty] * 4)] * 53 + [check(forty), plan(), front(HIGHEST), reach(), plan(), front(0),
                                                  reach()]
        self.assertEqual(len(calls), 60)
        self.assertLessEqual(len(laid(calls)), 12600)
        self.assertEqual(ask(*calls), [[-1]] * 53 + [[-5, 0, 0], [0], [-2], [1], [0], [-2], [1]])


class HandedInTwice(unittest.TestCase):
    def line(self):
        return laid(HOUSE + [plan(), front(0), check([2, 0, 0, 1, 1]), check([9]), wish(2, [0, 0]), plan(), reach(),
                             front(7), check([]), begins(1, [2]), plan()])

    def test_it_answers_the_same_and_is_as_it_was(self):
        calls = self.line()
        first = answers(calls)
        self.assertEqual(calls, self.line())
        self.assertEqual(answers(calls), first)
        self.assertEqual(calls, self.line())

    def test_what_is_answered_number_by_number(self):
        self.assertEqual(answers(self.line()), [
            1, 0, 1, 0, 1, 1, 1, 2, 1, 0, 1, 0,
            6, 19, 2, 0, 0, 1, 1,
            7, 3, 1, 19, 3, 23, 5, 27,
            4, 19, 1, 1, 2,
            5, -5, 0, 0, 1, 0,
            1, 0, 1, -6, 1, 13, 1, -2,
            4, -3, 0, 1, 0,
            1, 0, 1, 0])

    def test_it_is_not_changed_for_a_while(self):
        class Guarded(list):
            def refuse(self, *told):
                raise AssertionError("changed")
            append = extend = insert = pop = remove = clear = reverse = sort = refuse
            __setitem__ = __delitem__ = __iadd__ = __imul__ = refuse
        self.assertEqual(answers(Guarded(self.line())), answers(self.line()))

    def test_another_list_between_them_does_not_matter(self):
        first = answers(self.line())
        answers(laid([begins(3, [7, 7])] + largest_acts() + [wish(7, [7, 7]), plan(), reach()]))
        self.assertEqual(answers(self.line()), first)
        self.assertEqual(ask(plan(), reach(), check([])), [[0], [1], [0, 0]])

    def test_numbers_are_ints_in_a_list(self):
        given = answers(self.line())
        self.assertIs(type(given), list)
        for number in given:
            self.assertIs(type(number), int)


if __name__ == "__main__":
    unittest.main()
