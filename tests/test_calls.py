"""Ordinary lines of begins, act, start and wish, and how the answers are laid."""

import contextlib
import io
import unittest

from lines import HIGHEST, act, ask, begins, firsts, laid, start, wish
from tankplans.house import answers

PLAIN = [0, 0, 0, 0, 1]


class Layout(unittest.TestCase):
    def test_each_answer_has_its_count_before_it(self):
        calls = [0, 1, 2, 1, 1, 5,
                 1, 0, 2, 5, 1, 2, 3, 0, 10, 4, 5, 4, 3, 1,
                 1, 0, 2, 5, 0, 0, 0, 3, 7, 4, 0, 0, 5, 0,
                 2, 1, 3, 1, 1, 4,
                 3, 1, 2, 1, 1, 5]
        self.assertEqual(answers(calls), [1, 0, 1, 0, 1, 1, 1, 0, 1, 0])

    def test_a_refusal_has_its_count_before_it(self):
        self.assertEqual(answers([0, 1, 0, 1, 0]), [1, -1])
        self.assertEqual(answers([2, 1, 2, 1, 0, 3, 1, 1, 1, 0]), [1, -1, 1, 0])

    def test_numbers_are_ints_in_a_list(self):
        given = answers(laid([begins(1, [1]), act(PLAIN, [[0, 0, 0, 0]]), start(1, [1]), wish(2, [0])]))
        self.assertIs(type(given), list)
        for number in given:
            self.assertIs(type(number), int)

    def test_lists_that_do_not_fit_are_passed_over_whole(self):
        forty = list(range(40))
        self.assertEqual(
            firsts(begins(1, forty), act(forty, [forty] * 4), act(forty, []), start(0, forty), wish(0, forty),
                   act([], [[], [], [], []]), act(PLAIN, [])),
            [-1, -1, -1, -1, -1, -1, 0])

    def test_the_longest_line(self):
        forty = [HIGHEST] * 40
        calls = [act(forty, [forty] * 4)] * 59 + [act(PLAIN, [])]
        self.assertLessEqual(len(laid(calls)), 12600)
        self.assertEqual(firsts(*calls), [-1] * 59 + [0])


class Ordinary(unittest.TestCase):
    def test_begins_with_no_store(self):
        self.assertEqual(
            firsts(begins(3, []), act([7, 0, 7, 0, 1000], []), start(7, []), wish(7, [])),
            [0, 0, 0, 0])

    def test_begins_with_one_store(self):
        self.assertEqual(
            firsts(begins(2, [4]), act([1, 2, 3, 3, 20], [[4, 4, 4, 1]]), start(3, [4]), wish(2, [3])),
            [0, 0, 0, 0])

    def test_begins_with_two_stores(self):
        self.assertEqual(
            firsts(begins(1, [7, 2]), act([1, 1, 1, 1, 3], [[7, 6, 5, 0], [2, 1, 0, 1]]),
                   start(1, [7, 2]), wish(0, [6, 1])),
            [0, 0, 0, 0])

    def test_acts_are_numbered_as_they_are_told(self):
        acts = [act([0, 0, 1, 0, cost], [[0, 0, 1, 0]]) for cost in range(1, 9)]
        self.assertEqual(firsts(begins(1, [3]), *acts), [0, 0, 1, 2, 3, 4, 5, 6, 7])

    def test_like_acts_have_numbers_of_their_own(self):
        self.assertEqual(firsts(act(PLAIN, []), act(PLAIN, []), act(PLAIN, [])), [0, 1, 2])

    def test_other_calls_between_acts_leave_their_numbers(self):
        self.assertEqual(
            firsts(act(PLAIN, []), start(1, []), act(PLAIN, []), wish(1, []), act(PLAIN, [])),
            [0, 0, 1, 0, 2])

    def test_start_and_wish_may_be_told_again(self):
        self.assertEqual(
            firsts(begins(2, [5]), start(3, [5]), start(0, [0]), wish(3, [5]), wish(0, [0])),
            [0, 0, 0, 0, 0])


class AtItsBeginning(unittest.TestCase):
    def test_there_is_one_fact(self):
        self.assertEqual(firsts(start(0, []), start(1, []), start(2, [])), [0, 0, -1])
        self.assertEqual(firsts(wish(0, []), wish(1, []), wish(2, [])), [0, 0, -1])
        self.assertEqual(firsts(act([1, 1, 1, 1, 1], []), act([2, 0, 0, 0, 1], [])), [0, -1])

    def test_there_are_no_stores(self):
        self.assertEqual(firsts(start(0, [0])), [-1])
        self.assertEqual(firsts(wish(0, [0])), [-1])
        self.assertEqual(firsts(act(PLAIN, [[0, 0, 0, 0]])), [-1])

    def test_there_are_no_acts(self):
        self.assertEqual(firsts(*[act(PLAIN, [])] * 9), [0, 1, 2, 3, 4, 5, 6, 7, -7])


class BeginsAgain(unittest.TestCase):
    def test_acts_are_numbered_from_0_again(self):
        self.assertEqual(
            firsts(act(PLAIN, []), act(PLAIN, []), begins(1, []), act(PLAIN, [])),
            [0, 1, 0, 0])

    def test_eight_acts_are_gone(self):
        eight = [act(PLAIN, [])] * 8
        self.assertEqual(
            firsts(*eight, begins(1, []), *eight, act(PLAIN, [])),
            [0, 1, 2, 3, 4, 5, 6, 7, 0, 0, 1, 2, 3, 4, 5, 6, 7, -7])

    def test_the_new_count_of_facts_holds(self):
        self.assertEqual(
            firsts(begins(3, []), start(7, []), begins(2, []), start(7, []), start(3, []), wish(4, []),
                   act([4, 0, 0, 0, 1], []), begins(3, []), start(7, [])),
            [0, 0, 0, -1, 0, -1, -1, 0, 0])

    def test_the_new_rooms_hold(self):
        self.assertEqual(
            firsts(begins(1, [7, 3]), start(0, [7, 3]), begins(1, [3, 7]), start(0, [7, 3]), start(0, [3, 7]),
                   begins(1, [5]), start(0, [3, 7]), wish(0, [5]), wish(0, [6]), begins(1, []), wish(0, [5]),
                   wish(0, [])),
            [0, 0, 0, -1, 0, 0, -1, 0, -1, 0, -1, 0])


class HandedIn(unittest.TestCase):
    def line(self):
        return laid([begins(2, [7, 3]), act([1, 2, 3, 0, 5], [[1, 2, 3, 1], [0, 0, 3, 0]]), start(3, [7, 3]),
                     wish(1, [2, 2]), start(4, [7, 3]), begins(4, []), act([], []), act(PLAIN, [[0] * 4] * 2)])

    def test_it_is_not_changed(self):
        calls = self.line()
        answers(calls)
        self.assertEqual(calls, self.line())

    def test_it_is_not_changed_for_a_while(self):
        class Guarded(list):
            def refuse(self, *told):
                raise AssertionError("changed")
            append = extend = insert = pop = remove = clear = reverse = sort = refuse
            __setitem__ = __delitem__ = __iadd__ = __imul__ = refuse
        self.assertEqual(answers(Guarded(self.line())), answers(self.line()))

    def test_what_is_answered_is_a_list_of_its_own(self):
        calls = self.line()
        first = answers(calls)
        kept = list(first)
        first.append(9)
        self.assertEqual(answers(calls), kept)
        self.assertEqual(calls, self.line())

    def test_a_second_time_answers_the_same(self):
        calls = self.line()
        expected = [1, 0, 1, 0, 1, 0, 1, 0, 1, -1, 1, -1, 1, -1, 1, 1]
        self.assertEqual([answers(calls) for turn in range(3)], [expected] * 3)

    def test_nothing_is_kept_from_one_time_to_the_next(self):
        eight = laid([begins(3, [7])] + [act(PLAIN, [[0, 0, 0, 0]])] * 8 + [start(7, [7]), wish(7, [7])])
        answers(eight)
        self.assertEqual(firsts(act(PLAIN, []), start(2, []), start(0, [0]), wish(2, [])), [0, -1, -1, -1])

    def test_nothing_is_printed_or_read(self):
        out = io.StringIO()
        with contextlib.redirect_stdout(out), contextlib.redirect_stderr(out):
            ask(begins(1, []), begins(9, []), act(PLAIN, []), start(9, []), wish(0, []))
        self.assertEqual(out.getvalue(), "")


if __name__ == "__main__":
    unittest.main()
