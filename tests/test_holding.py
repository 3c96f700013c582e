"""Point 1: begin, hold, part."""

import unittest

from tests.lines import (
    BIGGEST, NONE_OR_TOO_MUCH, NOT_RIGHT, NO_SUCH, begin, hold, last, part, prices, quorum, ruler, rules, state,
    told, votes)


class Begin(unittest.TestCase):
    def test_how_many_people(self):
        for m, answer in ((0, [-22]), (1, [0]), (2, [0]), (3, [0]), (4, [0]), (5, [-22]), (BIGGEST, [-22])):
            with self.subTest(m=m):
                self.assertEqual(told(begin(m, 1)), [answer])

    def test_how_many_companies(self):
        for n, answer in ((0, [-22]), (1, [0]), (2, [0]), (3, [0]), (4, [0]), (5, [0]), (6, [-22]), (BIGGEST, [-22])):
            with self.subTest(n=n):
                self.assertEqual(told(begin(1, n)), [answer])

    def test_both_edges_at_once(self):
        self.assertEqual([told(begin(m, n)) for m, n in ((4, 5), (5, 5), (4, 6), (5, 4), (0, 0))],
                         [[[0]], [NOT_RIGHT], [NOT_RIGHT], [NOT_RIGHT], [NOT_RIGHT]])

    def test_there_are_just_so_many(self):
        for m in range(1, 5):
            for n in range(1, 6):
                with self.subTest(m=m, n=n):
                    self.assertEqual(told(begin(m, n), part(m + n - 1, n - 1), part(m + n, 0), part(0, n), rules(m - 1),
                                          rules(m), votes(n - 1), votes(n), ruler(n)),
                                     [[0], [0, 0, 1], NO_SUCH, NO_SUCH, [0], NO_SUCH, [0, 1, 1], NO_SUCH, NO_SUCH])

    def test_nobody_holds_anything(self):
        for holder in range(9):
            calls = [part(holder, company) for company in range(5)]
            self.assertEqual(told(begin(4, 5), *calls), [[0]] + [[0, 0, 1]] * 5)

    def test_the_quorum_is_three_by_five(self):
        self.assertEqual(last(begin(1, 1), hold(0, 0, 60, 100), rules(0)), [1, 0])
        self.assertEqual(last(begin(1, 1), hold(0, 0, 59, 100), rules(0)), [0])

    def test_each_price_is_100(self):
        for n in range(1, 6):
            with self.subTest(n=n):
                self.assertEqual(last(begin(1, n), state()), [1, n, 3, 5] + [100] * n)

    def test_a_later_one_makes_all_new(self):
        self.assertEqual(told(begin(2, 3), hold(0, 0, 1, 1), hold(3, 1, 2, 3), quorum(1, 1), prices(1, 2, 3),
                              begin(2, 3), part(0, 0), part(3, 1), hold(1, 2, 3, 5), rules(1), rules(0))[5:],
                         [[0], [0, 0, 1], [0, 0, 1], [0, 0, 1], [1, 2], [0]])
        self.assertEqual(told(begin(4, 5), begin(1, 1), part(1, 0), part(2, 0), part(0, 1)),
                         [[0], [0], [0, 0, 1], NO_SUCH, NO_SUCH])

    def test_a_later_one_makes_the_prices_new(self):
        self.assertEqual(last(begin(1, 2), prices(3, 4), begin(1, 3), state()), [1, 3, 3, 5, 100, 100, 100])

    def test_a_later_one_that_is_refused_changes_nothing(self):
        for m, n in ((0, 3), (5, 3), (2, 0), (2, 6)):
            with self.subTest(m=m, n=n):
                self.assertEqual(told(begin(2, 3), hold(0, 2, 2, 3), quorum(2, 3), begin(m, n), part(0, 2), rules(0),
                                      hold(0, 2, 3, 5), rules(0))[3:],
                                 [NOT_RIGHT, [0, 2, 3], [1, 2], [0, 2, 3], [0]])


class Hold(unittest.TestCase):
    def test_answers_what_was_held_before(self):
        self.assertEqual(told(begin(1, 1), hold(0, 0, 1, 3), hold(0, 0, 1, 2), hold(0, 0, 0, 1), hold(0, 0, 1, 1),
                              part(0, 0)),
                         [[0], [0, 0, 1], [0, 1, 3], [0, 1, 2], [0, 0, 1], [0, 1, 1]])

    def test_people_come_first_then_companies(self):
        calls = [hold(h, 1, h + 1, 20) for h in range(5)]
        parts = [part(h, 1) for h in range(5)]
        self.assertEqual(told(begin(2, 3), *calls, *parts)[6:],
                         [[0, 1, 20], [0, 1, 10], [0, 3, 20], [0, 1, 5], [0, 1, 4]])

    def test_changes_that_holder_and_company_alone(self):
        self.assertEqual(told(begin(2, 2), hold(1, 0, 1, 7), part(0, 0), part(0, 1), part(1, 0), part(1, 1), part(2, 0),
                              part(2, 1), part(3, 0), part(3, 1))[2:],
                         [[0, 0, 1], [0, 0, 1], [0, 1, 7], [0, 0, 1], [0, 0, 1], [0, 0, 1], [0, 0, 1], [0, 0, 1]])

    def test_no_such_holder_or_company(self):
        self.assertEqual(told(begin(2, 3), hold(4, 2, 1, 2), hold(5, 2, 1, 2), hold(0, 3, 1, 2), hold(0, 4, 1, 2),
                              hold(BIGGEST, 0, 1, 2), hold(0, BIGGEST, 1, 2)),
                         [[0], [0, 0, 1], NO_SUCH, NO_SUCH, NO_SUCH, NO_SUCH, NO_SUCH])

    def test_the_lower_number(self):
        for b, answer in ((0, [-22]), (1, [0, 0, 1]), (100, [0, 0, 1]), (101, [-22]), (BIGGEST, [-22])):
            with self.subTest(b=b):
                self.assertEqual(last(begin(1, 1), hold(0, 0, 0, b)), answer)
                self.assertEqual(last(begin(1, 1), hold(0, 0, min(b, 1), b)), answer)

    def test_the_upper_number(self):
        for a, b, answer in ((1, 1, [0, 0, 1]), (2, 1, [-22]), (100, 100, [0, 0, 1]), (101, 100, [-22]),
                             (7, 7, [0, 0, 1]), (8, 7, [-22]), (BIGGEST, 7, [-22])):
            with self.subTest(a=a, b=b):
                self.assertEqual(last(begin(1, 1), hold(0, 0, a, b)), answer)

    def test_all_parts_are_at_most_1(self):
        self.assertEqual(told(begin(2, 1), hold(0, 0, 1, 2), hold(1, 0, 1, 3), hold(2, 0, 1, 6), hold(2, 0, 17, 100),
                              hold(0, 0, 51, 100), hold(1, 0, 34, 100)),
                         [[0], [0, 0, 1], [0, 0, 1], [0, 0, 1], NONE_OR_TOO_MUCH, NONE_OR_TOO_MUCH, NONE_OR_TOO_MUCH])

    def test_a_hair_more_than_1_is_refused(self):
        self.assertEqual(told(begin(2, 1), hold(0, 0, 1, 99), hold(1, 0, 99, 100), hold(1, 0, 98, 99)),
                         [[0], [0, 0, 1], NONE_OR_TOO_MUCH, [0, 0, 1]])

    def test_what_the_holder_had_counts_no_more(self):
        self.assertEqual(told(begin(2, 1), hold(0, 0, 3, 4), hold(0, 0, 1, 1), hold(1, 0, 1, 100), hold(0, 0, 2, 4),
                              hold(1, 0, 1, 2)),
                         [[0], [0, 0, 1], [0, 3, 4], NONE_OR_TOO_MUCH, [0, 1, 1], [0, 0, 1]])

    def test_each_company_has_parts_of_its_own(self):
        self.assertEqual(told(begin(1, 2), hold(0, 0, 1, 1), hold(0, 1, 1, 1)), [[0], [0, 0, 1], [0, 0, 1]])

    def test_what_a_company_holds_of_itself_counts(self):
        self.assertEqual(told(begin(1, 1), hold(1, 0, 1, 2), hold(0, 0, 2, 3), hold(0, 0, 1, 2)),
                         [[0], [0, 0, 1], NONE_OR_TOO_MUCH, [0, 0, 1]])

    def test_nothing_may_be_held_of_what_is_held_whole(self):
        self.assertEqual(told(begin(2, 1), hold(0, 0, 1, 1), hold(1, 0, 0, 100)), [[0], [0, 0, 1], [0, 0, 1]])

    def test_the_refusal_named_first_is_answered(self):
        whole = (begin(1, 1), hold(0, 0, 1, 1))
        self.assertEqual(last(*whole, hold(2, 0, 1, 0)), NO_SUCH)
        self.assertEqual(last(*whole, hold(1, 1, 2, 1)), NO_SUCH)
        self.assertEqual(last(*whole, hold(2, 1, 1, 1)), NO_SUCH)
        self.assertEqual(last(*whole, hold(1, 0, 2, 1)), NOT_RIGHT)
        self.assertEqual(last(*whole, hold(1, 0, 1, 101)), NOT_RIGHT)
        self.assertEqual(last(*whole, hold(1, 0, 1, 0)), NOT_RIGHT)
        self.assertEqual(last(*whole, hold(1, 0, 1, 1)), NONE_OR_TOO_MUCH)

    def test_what_is_refused_changes_nothing(self):
        refused = (hold(4, 0, 1, 2), hold(0, 2, 1, 2), hold(0, 0, 1, 0), hold(0, 0, 1, 101), hold(0, 0, 3, 2),
                   hold(0, 0, 3, 4))
        parts = [part(h, j) for h in range(4) for j in range(2)]
        for call in refused:
            with self.subTest(call=call):
                rows = told(begin(2, 2), hold(0, 0, 1, 3), hold(1, 0, 2, 5), *parts, call, *parts)
                self.assertLess(rows[11][0], 0)
                self.assertEqual(rows[12:], rows[3:11])


class Part(unittest.TestCase):
    def test_what_is_held(self):
        self.assertEqual(told(begin(1, 2), hold(2, 0, 5, 9), part(2, 0), part(0, 0), part(2, 1))[2:],
                         [[0, 5, 9], [0, 0, 1], [0, 0, 1]])

    def test_a_company_may_hold_itself(self):
        self.assertEqual(last(begin(1, 2), hold(2, 1, 5, 9), part(2, 1)), [0, 5, 9])

    def test_no_such_holder_or_company(self):
        self.assertEqual(told(begin(2, 3), part(4, 2), part(5, 0), part(0, 3), part(5, 3), part(BIGGEST, 0),
                              part(0, BIGGEST)),
                         [[0], [0, 0, 1], NO_SUCH, NO_SUCH, NO_SUCH, NO_SUCH, NO_SUCH])

    def test_told_in_lowest_terms(self):
        for a, b, answer in ((50, 100, [0, 1, 2]), (6, 9, [0, 2, 3]), (99, 99, [0, 1, 1]), (0, 100, [0, 0, 1]),
                             (0, 1, [0, 0, 1]), (84, 96, [0, 7, 8]), (13, 97, [0, 13, 97])):
            with self.subTest(a=a, b=b):
                self.assertEqual(last(begin(1, 1), hold(0, 0, a, b), part(0, 0)), answer)
                self.assertEqual(last(begin(1, 1), hold(0, 0, a, b), hold(0, 0, 1, 1)), answer)

    def test_asking_changes_nothing(self):
        self.assertEqual(told(begin(1, 1), hold(0, 0, 2, 4), part(0, 0), part(0, 0))[2:], [[0, 1, 2], [0, 1, 2]])
