"""Point 2: together, least, weight."""

import unittest

from tests.lines import (
    BIGGEST, NOT_BEGUN, NOT_RIGHT, NO_SUCH, begin, hold, last, least, quorum, replies, rules, together, told, weight)

# Person 0 has half of company 0, the persons 1 and 2 a fifth each; company 0 has all of company 1.
UNLIKE = (begin(3, 2), hold(0, 0, 1, 2), hold(1, 0, 1, 5), hold(2, 0, 1, 5), hold(3, 1, 1, 1))
# Each of three people has a third.
ALIKE = (begin(3, 1), hold(0, 0, 1, 3), hold(1, 0, 1, 3), hold(2, 0, 1, 3))


class Together(unittest.TestCase):
    def test_each_set(self):
        self.assertEqual(replies(UNLIKE, [together(s) for s in range(8)]),
                         [[0], [0], [0], [2, 0, 1], [0], [2, 0, 1], [0], [2, 0, 1]])

    def test_one_alone_rules_what_they_rule(self):
        calls = (begin(4, 3), hold(2, 1, 3, 5), hold(5, 2, 2, 3), hold(3, 0, 1, 1))
        for p in range(4):
            with self.subTest(p=p):
                rows = told(*calls, together(1 << p), rules(p))
                self.assertEqual(rows[-2], rows[-1])
        self.assertEqual(last(*calls, together(4)), [2, 1, 2])

    def test_nobody_rules_nothing(self):
        for a in (0, 1):
            self.assertEqual(last(begin(1, 2), hold(0, 0, a, 1), hold(2, 1, 1, 1), together(0)), [0])

    def test_nobody_rules_no_ring(self):
        self.assertEqual(last(begin(1, 2), hold(1, 1, 1, 1), hold(2, 0, 1, 1), together(0)), [0])

    def test_just_below_and_just_at_2_to_the_power_of_people(self):
        for m in range(1, 5):
            calls = [hold(p, 0, 1, m) for p in range(m)]
            with self.subTest(m=m):
                self.assertEqual(told(begin(m, 1), *calls, together(2 ** m - 1), together(2 ** m), together(2 ** m + 1),
                                      together(BIGGEST), together(2 ** 31))[m + 1:],
                                 [[1, 0], NOT_RIGHT, NOT_RIGHT, NOT_RIGHT, NOT_RIGHT])

    def test_a_set_with_somebody_who_is_not_there_is_none(self):
        self.assertEqual(told(begin(2, 1), hold(0, 0, 1, 1), together(1), together(5), together(4))[2:],
                         [[1, 0], NOT_RIGHT, NOT_RIGHT])

    def test_just_as_much_as_the_quorum(self):
        self.assertEqual(last(begin(2, 1), hold(0, 0, 1, 3), hold(1, 0, 4, 15), together(3)), [1, 0])
        self.assertEqual(last(begin(2, 1), hold(0, 0, 1, 3), hold(1, 0, 26, 98), together(3)), [0])

    def test_a_quorum_of_1(self):
        self.assertEqual(replies((*ALIKE, quorum(1, 1)), [together(s) for s in range(8)]), [[0]] * 7 + [[1, 0]])

    def test_by_way_of_what_each_rules(self):
        # Person 0 rules company 0, person 1 company 1; only both together have enough of company 2.
        calls = (begin(2, 3), hold(0, 0, 1, 1), hold(1, 1, 1, 1), hold(2, 2, 3, 10), hold(3, 2, 3, 10))
        self.assertEqual(replies(calls, [together(s) for s in range(4)]), [[0], [1, 0], [1, 1], [3, 0, 1, 2]])

    def test_by_way_of_what_they_rule_together(self):
        calls = (begin(2, 3), hold(0, 2, 3, 10), hold(1, 2, 3, 10), hold(4, 0, 1, 2), hold(1, 0, 1, 10))
        self.assertEqual(replies(calls, [together(s) for s in range(4)]), [[0], [0], [0], [2, 0, 2]])

    def test_a_company_that_holds_itself(self):
        half = (begin(2, 1), hold(2, 0, 1, 2), hold(0, 0, 1, 5))
        self.assertEqual(last(*half, hold(1, 0, 1, 10), together(3)), [1, 0])
        self.assertEqual(last(*half, hold(1, 0, 9, 100), together(3)), [0])

    def test_a_company_without_votes_is_ruled_by_no_set(self):
        self.assertEqual(replies((begin(2, 1), hold(2, 0, 1, 1)), [together(s) for s in range(4)]), [[0]] * 4)

    def test_before_a_begin(self):
        self.assertEqual(told(together(0), together(BIGGEST)), [NOT_BEGUN, NOT_BEGUN])


class Least(unittest.TestCase):
    def test_those_that_need_everybody(self):
        self.assertEqual(replies(UNLIKE, [least(0), least(1)]), [[2, 3, 5], [2, 3, 5]])

    def test_any_two_of_three(self):
        self.assertEqual(last(*ALIKE, least(0)), [3, 3, 5, 6])

    def test_a_quorum_of_1_needs_all(self):
        self.assertEqual(last(*ALIKE, quorum(1, 1), least(0)), [1, 7])

    def test_one_who_rules_alone(self):
        for p in range(4):
            with self.subTest(p=p):
                self.assertEqual(last(begin(4, 1), hold(p, 0, 3, 5), hold((p + 1) % 4, 0, 2, 5), least(0)), [1, 1 << p])

    def test_any_three_of_four_rising(self):
        self.assertEqual(last(begin(4, 1), *[hold(p, 0, 1, 4) for p in range(4)], least(0)), [4, 7, 11, 13, 14])

    def test_sets_of_unlike_size(self):
        # 0 and 3 have enough; without 3 it needs 0, 1 and 2; without 0 it needs 1, 2 and 3.
        calls = (begin(4, 1), hold(0, 0, 3, 10), hold(1, 0, 15, 100), hold(2, 0, 15, 100), hold(3, 0, 3, 10))
        self.assertEqual(last(*calls, least(0)), [3, 7, 9, 14])

    def test_none(self):
        self.assertEqual(last(begin(2, 1), least(0)), [0])
        self.assertEqual(last(begin(2, 1), hold(0, 0, 3, 10), hold(1, 0, 29, 100), least(0)), [0])
        self.assertEqual(last(begin(2, 1), hold(2, 0, 1, 1), least(0)), [0])
        self.assertEqual(last(begin(2, 2), hold(2, 1, 1, 1), hold(3, 0, 1, 1), least(0)), [0])

    def test_by_way_of_what_they_rule(self):
        calls = (begin(3, 2), hold(0, 0, 1, 1), hold(3, 1, 1, 2), hold(1, 1, 1, 4), hold(2, 1, 1, 4))
        self.assertEqual(last(*calls, least(1)), [2, 3, 5])

    def test_no_such_company(self):
        for n in range(1, 6):
            with self.subTest(n=n):
                self.assertEqual(told(begin(4, n), hold(0, n - 1, 1, 1), least(n - 1), least(n), least(BIGGEST))[2:],
                                 [[1, 1], NO_SUCH, NO_SUCH])

    def test_before_a_begin(self):
        self.assertEqual(told(least(0), least(BIGGEST)), [NOT_BEGUN, NOT_BEGUN])


class Weight(unittest.TestCase):
    def test_how_many_sets_of_others_need_them(self):
        self.assertEqual(replies(UNLIKE, [weight(p, j) for p in range(3) for j in range(2)]),
                         [[3], [3], [1], [1], [1], [1]])

    def test_any_two_of_three(self):
        self.assertEqual(replies(ALIKE, [weight(p, 0) for p in range(3)]), [[2], [2], [2]])

    def test_a_quorum_of_1_needs_all(self):
        self.assertEqual(replies((*ALIKE, quorum(1, 1)), [weight(p, 0) for p in range(3)]), [[1], [1], [1]])

    def test_one_who_rules_alone_counts_nobody_among_the_sets(self):
        for m in range(1, 5):
            with self.subTest(m=m):
                self.assertEqual(replies((begin(m, 1), hold(m - 1, 0, 3, 5)), [weight(p, 0) for p in range(m)]),
                                 [[0]] * (m - 1) + [[2 ** (m - 1)]])

    def test_who_holds_but_is_not_needed(self):
        self.assertEqual(replies((begin(2, 1), hold(0, 0, 3, 5), hold(1, 0, 2, 5)), [weight(0, 0), weight(1, 0)]),
                         [[2], [0]])

    def test_nobody_matters_where_nobody_rules(self):
        self.assertEqual(replies((begin(2, 1), hold(0, 0, 1, 2)), [weight(0, 0), weight(1, 0)]), [[0], [0]])
        self.assertEqual(replies((begin(2, 1), hold(2, 0, 1, 1)), [weight(0, 0), weight(1, 0)]), [[0], [0]])

    def test_by_way_of_what_they_rule(self):
        calls = (begin(3, 2), hold(0, 0, 1, 1), hold(3, 1, 1, 2), hold(1, 1, 1, 4), hold(2, 1, 1, 4))
        self.assertEqual(replies(calls, [weight(p, 1) for p in range(3)]), [[3], [1], [1]])

    def test_no_such_person_or_company(self):
        for m in range(1, 5):
            for n in range(1, 6):
                with self.subTest(m=m, n=n):
                    self.assertEqual(told(begin(m, n), weight(m - 1, n - 1), weight(m, n - 1), weight(m - 1, n),
                                          weight(m, n), weight(BIGGEST, 0), weight(0, BIGGEST)),
                                     [[0], [0], NO_SUCH, NO_SUCH, NO_SUCH, NO_SUCH, NO_SUCH])

    def test_before_a_begin(self):
        self.assertEqual(told(weight(0, 0), weight(BIGGEST, BIGGEST)), [NOT_BEGUN, NOT_BEGUN])
