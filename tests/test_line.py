"""The interface: how calls and answers stand in one list, -11 before a begin, nothing kept, nothing changed."""

import unittest

from tests.lines import (
    BIGGEST, NOT_BEGUN, NOT_RIGHT, begin, cheapest, hold, lacking, least, part, prices, quorum, ruler, rules, state,
    together, told, votes, weight)
from whorules.desk import answers

ALL_BUT_BEGIN = (
    [1, 0, 0, 1, 2], [2, 0, 0], [3, 2, 3], [4, 1, 100], [4, 0], [5, 0], [6, 0], [7, 0], [8], [9], [10, 1],
    [11, 0], [12, 0, 0], [13, 0, 0], [14, 0, 0], [15],
)

# Every call, with what is refused and a later begin among them.
MANY = [0, 2, 3, 4, 3, 5, 6, 7, 3, 4, 6, 1, 0, 0, 2, 3, 1, 2, 1, 1, 2, 1, 3, 2, 2, 3, 2, 0, 0, 5, 1, 6, 0, 7, 1, 8, 9,
        10, 3, 11, 2, 12, 0, 1, 13, 0, 2, 13, 1, 2, 14, 0, 2, 15, 4, 1, 9, 10, 4, 13, 0, 3, 0, 0, 0, 15, 0, 1, 1,
        1, 1, 0, 1, 1, 13, 0, 0, 15]


class Fixed(list):
    """A list that can't be changed."""

    def refuse(self, *given):
        raise AssertionError("what is handed in was changed")

    append = extend = insert = pop = remove = clear = sort = reverse = refuse
    __setitem__ = __delitem__ = __iadd__ = __imul__ = refuse


class TheLine(unittest.TestCase):
    def test_no_calls_no_answers(self):
        self.assertEqual(answers([]), [])

    def test_all_sixteen_calls_number_by_number(self):
        calls = [0, 2, 3,
                 1, 0, 0, 6, 10,
                 1, 2, 2, 4, 6,
                 2, 2, 2,
                 3, 51, 100,
                 4, 3, 0, 1000, 7,
                 5, 0,
                 6, 0,
                 6, 1,
                 7, 2,
                 7, 1,
                 8,
                 9,
                 10, 3,
                 11, 2,
                 12, 0, 2,
                 13, 1, 2,
                 13, 0, 2,
                 14, 1, 1,
                 15]
        self.assertEqual(answers(calls), [1, 0,
                                          3, 0, 0, 1,
                                          3, 0, 0, 1,
                                          3, 0, 2, 3,
                                          1, 0,
                                          1, 0,
                                          3, 0, 1, 1,
                                          3, 2, 0, 2,
                                          1, 0,
                                          1, 0,
                                          1, -33,
                                          1, 0,
                                          2, 1, 1,
                                          3, 2, 0, 2,
                                          2, 1, 1,
                                          1, 2,
                                          6, 1, 0, 1, 0, 51, 100,
                                          3, 0, 0, 1,
                                          3, 0, 51, 100,
                                          7, 2, 3, 51, 100, 0, 1000, 7])

    def test_gives_back_a_list_of_plain_ints(self):
        given_back = answers(MANY)
        self.assertIs(type(given_back), list)
        self.assertEqual({type(number) for number in given_back}, {int})

    def test_the_list_handed_in_stays_as_it_was(self):
        calls = list(MANY)
        answers(calls)
        self.assertEqual(calls, MANY)

    def test_the_list_handed_in_is_not_changed_for_a_while_either(self):
        self.assertEqual(answers(Fixed(MANY)), answers(MANY))

    def test_what_is_given_back_is_not_what_was_handed_in(self):
        calls = []
        answers(calls).append(1)
        self.assertEqual(calls, [])

    def test_calling_twice_answers_the_same(self):
        first = answers(MANY)
        answers([0, 4, 5, 3, 1, 1, 4, 5, 1, 2, 3, 4, 5, 1, 0, 0, 1, 1, 13, 0, 4])
        self.assertEqual(answers(MANY), first)

    def test_nothing_is_kept_from_one_time_to_the_next(self):
        answers(begin(2, 2) + hold(0, 0, 1, 1) + quorum(1, 1) + prices(1, 2))
        self.assertEqual(told(part(0, 0)), [NOT_BEGUN])
        self.assertEqual(told(begin(2, 2), part(0, 0), state()), [[0], [0, 0, 1], [2, 2, 3, 5, 100, 100]])

    def test_what_is_given_back_is_new_each_time(self):
        calls = begin(1, 1) + hold(0, 0, 1, 1) + rules(0)
        first = answers(calls)
        first.clear()
        self.assertEqual(answers(calls), [1, 0, 3, 0, 0, 1, 2, 1, 0])

    def test_forty_calls(self):
        calls = [begin(4, 5)] + [votes(j % 5) for j in range(39)]
        self.assertEqual(told(*calls), [[0]] + [[0, 1, 1]] * 39)

    def test_a_row_of_255_prices_is_passed_over_whole(self):
        self.assertEqual(told(begin(1, 1), prices(*[0] * 255), votes(0)), [[0], NOT_RIGHT, [0, 1, 1]])

    def test_forty_of_the_longest_calls(self):
        calls = [prices(*[0] * 255)] * 40
        self.assertEqual(told(*calls), [NOT_BEGUN] * 40)


class BeforeABegin(unittest.TestCase):
    def test_every_other_call_is_refused(self):
        for call in ALL_BUT_BEGIN:
            with self.subTest(call=call):
                self.assertEqual(told(call), [NOT_BEGUN])

    def test_also_behind_a_begin_that_is_refused(self):
        for call in ALL_BUT_BEGIN:
            with self.subTest(call=call):
                self.assertEqual(told(begin(0, 1), call, begin(1, 6), call), [NOT_RIGHT, NOT_BEGUN] * 2)

    def test_goes_ahead_of_every_other_refusal(self):
        self.assertEqual(told(hold(9, 9, 2, 0), part(9, 9), quorum(1, 0), prices(), prices(1001), votes(9),
                              rules(9), ruler(9), together(16), together(BIGGEST), least(9), weight(9, 9),
                              cheapest(9, 9), lacking(9, 9)),
                         [NOT_BEGUN] * 14)

    def test_what_was_refused_then_is_not_done_later(self):
        self.assertEqual(told(hold(0, 0, 1, 1), begin(1, 1), part(0, 0)), [NOT_BEGUN, [0], [0, 0, 1]])
        self.assertEqual(told(quorum(1, 1), begin(1, 1), hold(0, 0, 3, 5), rules(0)),
                         [NOT_BEGUN, [0], [0, 0, 1], [1, 0]])
