"""The interface: how calls and answers stand in one list, -11 before a begin, nothing kept, nothing changed."""

import unittest

from tests.lines import NOT_BEGUN, NOT_RIGHT, begin, hold, part, prices, quorum, rules, told, votes
from whorules.desk import answers

ALL_BUT_BEGIN = (
    [1, 0, 0, 1, 2], [2, 0, 0], [3, 2, 3], [4, 1, 100], [4, 0], [5, 0], [6, 0], [7, 0], [8], [9], [10, 1],
    [11, 0], [12, 0, 0], [13, 0, 0], [14, 0, 0], [15],
)


class TheLine(unittest.TestCase):
    def test_no_calls_no_answers(self):
        self.assertEqual(answers([]), [])

    def test_all_eight_calls_number_by_number(self):
        calls = [0, 2, 3,
                 1, 0, 0, 6, 10,
                 1, 2, 2, 4, 6,
                 2, 2, 2,
                 3, 51, 100,
                 4, 3, 0, 1000, 7,
                 5, 0,
                 6, 0,
                 6, 1,
                 7, 2,
                 7, 1]
        self.assertEqual(answers(calls), [1, 0,
                                          3, 0, 0, 1,
                                          3, 0, 0, 1,
                                          3, 0, 2, 3,
                                          1, 0,
                                          1, 0,
                                          3, 0, 1, 1,
                                          3, 2, 0, 2,
                                          1, 0,
                                          1, 0,
                                          1, -33])

    def test_gives_back_a_list_of_plain_ints(self):
        given_back = answers([0, 1, 1, 1, 0, 0, 2, 3, 5, 0, 6, 0, 7, 0])
        self.assertIs(type(given_back), list)
        self.assertEqual({type(number) for number in given_back}, {int})

    def test_the_list_handed_in_stays_as_it_was(self):
        calls = [0, 2, 2, 1, 0, 1, 2, 4, 4, 2, 5, 6, 4, 1, 5, 3, 4, 6, 6, 0, 7, 1, 0, 0, 0]
        before = list(calls)
        answers(calls)
        self.assertEqual(calls, before)

    def test_calling_twice_answers_the_same(self):
        calls = [0, 2, 2, 1, 0, 1, 2, 3, 3, 2, 3, 4, 2, 5, 6, 6, 0, 7, 1]
        self.assertEqual(answers(calls), answers(calls))

    def test_nothing_is_kept_from_one_time_to_the_next(self):
        answers(begin(2, 2) + hold(0, 0, 1, 1) + quorum(1, 1) + prices(1, 2))
        self.assertEqual(told(part(0, 0)), [NOT_BEGUN])
        self.assertEqual(told(begin(2, 2), part(0, 0)), [[0], [0, 0, 1]])

    def test_what_is_given_back_is_new_each_time(self):
        calls = begin(1, 1) + hold(0, 0, 1, 1) + rules(0)
        first = answers(calls)
        first.clear()
        self.assertEqual(answers(calls), [1, 0, 3, 0, 0, 1, 2, 1, 0])

    def test_forty_calls(self):
        calls = [begin(4, 5)] + [votes(j % 5) for j in range(39)]
        self.assertEqual(told(*calls), [[0]] + [[0, 1, 1]] * 39)

    def test_a_row_of_255_prices_is_passed_over_whole(self):
        self.assertEqual(told(begin(1, 1), prices(*[0] * 255), votes(0)), [[0], NOT_RIGHT, [0, 1, 1]])

    def test_forty_of_the_longest_calls(self):
        calls = [prices(*[0] * 255)] * 40
        self.assertEqual(told(*calls), [NOT_BEGUN] * 40)


class BeforeABegin(unittest.TestCase):
    def test_every_other_call_is_refused(self):
        for call in ALL_BUT_BEGIN:
            with self.subTest(call=call):
                self.assertEqual(told(call), [NOT_BEGUN])

    def test_also_behind_a_begin_that_is_refused(self):
        for call in ALL_BUT_BEGIN:
            with self.subTest(call=call):
                self.assertEqual(told(begin(0, 1), call, begin(1, 6), call), [NOT_RIGHT, NOT_BEGUN] * 2)

    def test_goes_ahead_of_every_other_refusal(self):
        self.assertEqual(told(hold(9, 9, 2, 0), part(9, 9), quorum(1, 0), prices(), prices(1001), votes(9),
                              rules(9), [7, 9]), [NOT_BEGUN] * 8)

    def test_what_was_refused_then_is_not_done_later(self):
        self.assertEqual(told(hold(0, 0, 1, 1), begin(1, 1), part(0, 0)), [NOT_BEGUN, [0], [0, 0, 1]])
        self.assertEqual(told(quorum(1, 1), begin(1, 1), hold(0, 0, 3, 5), rules(0)),
                         [NOT_BEGUN, [0], [0, 0, 1], [1, 0]])
