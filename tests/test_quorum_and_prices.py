"""Point 2: quorum and prices."""

import unittest

from tests.lines import BIGGEST, NOT_RIGHT, begin, hold, last, prices, quorum, rules, state, told


class Quorum(unittest.TestCase):
    def test_rules_from_then_on(self):
        self.assertEqual(told(begin(1, 1), hold(0, 0, 2, 3), rules(0), quorum(3, 4), rules(0), quorum(2, 3), rules(0)),
                         [[0], [0, 0, 1], [1, 0], [0], [0], [0], [1, 0]])

    def test_the_lower_number(self):
        for b, answer in ((0, [-22]), (1, [0]), (100, [0]), (101, [-22]), (BIGGEST, [-22])):
            with self.subTest(b=b):
                self.assertEqual(last(begin(1, 1), quorum(b, b)), answer)

    def test_the_upper_number(self):
        for a, b, answer in ((100, 100, [0]), (101, 100, [-22]), (2, 1, [-22]), (7, 7, [0]), (8, 7, [-22]),
                             (BIGGEST, 100, [-22])):
            with self.subTest(a=a, b=b):
                self.assertEqual(last(begin(1, 1), quorum(a, b)), answer)

    def test_above_one_half(self):
        for a, b, answer in ((1, 2, [-22]), (2, 4, [-22]), (50, 100, [-22]), (51, 100, [0]), (49, 99, [-22]),
                             (50, 99, [0]), (2, 3, [0]), (1, 3, [-22]), (0, 1, [-22]), (0, 100, [-22])):
            with self.subTest(a=a, b=b):
                self.assertEqual(last(begin(1, 1), quorum(a, b)), answer)

    def test_just_above_one_half_rules(self):
        self.assertEqual(told(begin(2, 1), quorum(50, 99), hold(0, 0, 50, 99), hold(1, 0, 49, 99), rules(0), rules(1)),
                         [[0], [0], [0, 0, 1], [0, 0, 1], [1, 0], [0]])

    def test_not_in_lowest_terms(self):
        self.assertEqual(told(begin(1, 1), quorum(60, 90), hold(0, 0, 2, 3), rules(0), hold(0, 0, 65, 99), rules(0))[3:],
                         [[1, 0], [0, 2, 3], [0]])

    def test_what_is_refused_changes_nothing(self):
        for a, b in ((1, 0), (1, 101), (3, 2), (1, 2), (0, 1), (100, 101)):
            with self.subTest(a=a, b=b):
                self.assertEqual(told(begin(1, 2), quorum(3, 4), quorum(a, b), hold(0, 0, 3, 4), hold(0, 1, 74, 99),
                                      rules(0)),
                                 [[0], [0], NOT_RIGHT, [0, 0, 1], [0, 0, 1], [1, 0]])


class Prices(unittest.TestCase):
    def test_one_for_each_company(self):
        for n in range(1, 6):
            with self.subTest(n=n):
                self.assertEqual(last(begin(1, n), prices(*range(n))), [0])

    def test_too_short_too_long_or_empty(self):
        for n in range(1, 6):
            with self.subTest(n=n):
                self.assertEqual(told(begin(1, n), prices(*[7] * (n - 1)), prices(*[7] * (n + 1)), prices(),
                                      prices(*[7] * 255)),
                                 [[0], NOT_RIGHT, NOT_RIGHT, NOT_RIGHT, NOT_RIGHT])

    def test_from_0_to_1000(self):
        for price, answer in ((0, [0]), (1, [0]), (1000, [0]), (1001, [-22]), (BIGGEST, [-22])):
            for row in ((price, 5, 5), (5, price, 5), (5, 5, price), (price, price, price)):
                with self.subTest(row=row):
                    self.assertEqual(last(begin(1, 3), prices(*row)), answer)

    def test_these_are_kept(self):
        self.assertEqual(told(begin(1, 3), prices(0, 1000, 7), state(), prices(5, 5, 5), state())[2:],
                         [[1, 3, 3, 5, 0, 1000, 7], [0], [1, 3, 3, 5, 5, 5, 5]])

    def test_what_is_refused_changes_nothing(self):
        for row in ([], [1], [1, 2, 3], [1, 1001], [1001, 1]):
            with self.subTest(row=row):
                self.assertEqual(told(begin(1, 2), prices(3, 4), prices(*row), state())[2:],
                                 [NOT_RIGHT, [1, 2, 3, 5, 3, 4]])

    def test_rule_nothing(self):
        self.assertEqual(told(begin(1, 2), hold(0, 1, 3, 5), prices(0, 0), rules(0)), [[0], [0, 0, 1], [0], [1, 1]])
