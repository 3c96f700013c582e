"""Point 2: lacking and cheapest."""

import unittest
from fractions import Fraction

from tests.lines import (
    BIGGEST, NONE_OR_TOO_MUCH, NOT_BEGUN, NO_SUCH, begin, cheapest, hold, lacking, last, part, prices, quorum, replies,
    rules, state, told)


class Lacking(unittest.TestCase):
    def test_the_quorum_where_nothing_is_held(self):
        self.assertEqual(last(begin(1, 1), lacking(0, 0)), [0, 3, 5])
        self.assertEqual(last(begin(1, 1), quorum(51, 100), lacking(0, 0)), [0, 51, 100])
        self.assertEqual(last(begin(1, 1), quorum(1, 1), lacking(0, 0)), [0, 1, 1])

    def test_less_what_they_hold(self):
        self.assertEqual(last(begin(2, 1), hold(1, 0, 1, 3), lacking(1, 0)), [0, 4, 15])
        self.assertEqual(last(begin(2, 1), hold(1, 0, 1, 3), lacking(0, 0)), [0, 3, 5])

    def test_just_as_much_as_the_quorum_lacks_nothing(self):
        self.assertEqual(last(begin(1, 1), hold(0, 0, 3, 5), lacking(0, 0)), [0, 0, 1])
        self.assertEqual(last(begin(1, 1), hold(0, 0, 59, 100), lacking(0, 0)), [0, 1, 100])

    def test_never_below_0(self):
        self.assertEqual(last(begin(1, 1), hold(0, 0, 61, 100), lacking(0, 0)), [0, 0, 1])
        self.assertEqual(last(begin(1, 1), hold(0, 0, 1, 1), lacking(0, 0)), [0, 0, 1])

    def test_less_what_ruled_companies_hold(self):
        own = (begin(2, 3), hold(0, 0, 1, 1), hold(2, 1, 1, 4))
        self.assertEqual(last(*own, lacking(0, 1)), [0, 7, 20])
        self.assertEqual(last(*own, hold(0, 1, 1, 10), lacking(0, 1)), [0, 1, 4])
        self.assertEqual(last(*own, lacking(1, 1)), [0, 3, 5])

    def test_not_less_what_companies_hold_that_others_or_nobody_rules(self):
        self.assertEqual(replies((begin(2, 2), hold(0, 0, 1, 2), hold(2, 1, 1, 2)), [lacking(0, 1), lacking(1, 1)]),
                         [[0, 3, 5], [0, 3, 5]])
        self.assertEqual(replies((begin(2, 2), hold(0, 0, 1, 1), hold(2, 1, 1, 2)), [lacking(0, 1), lacking(1, 1)]),
                         [[0, 1, 10], [0, 3, 5]])

    def test_ruled_by_way_of_another_one_lacks_nothing(self):
        self.assertEqual(last(begin(1, 2), hold(0, 0, 1, 1), hold(1, 1, 3, 5), lacking(0, 1)), [0, 0, 1])

    def test_a_company_that_holds_itself(self):
        half = (begin(1, 1), hold(1, 0, 1, 2))
        self.assertEqual(last(*half, lacking(0, 0)), [0, 3, 10])
        self.assertEqual(last(*half, hold(0, 0, 1, 5), lacking(0, 0)), [0, 1, 10])
        self.assertEqual(last(*half, hold(0, 0, 3, 10), lacking(0, 0)), [0, 0, 1])

    def test_of_a_company_without_votes_nothing_is_lacking(self):
        self.assertEqual(last(begin(1, 1), hold(1, 0, 1, 1), lacking(0, 0)), [0, 0, 1])

    def test_of_a_ring_that_rules_itself(self):
        self.assertEqual(last(begin(1, 2), hold(1, 1, 3, 5), hold(2, 0, 3, 5), hold(0, 0, 2, 5), lacking(0, 0)),
                         [0, 1, 5])

    def test_in_lowest_terms(self):
        self.assertEqual(last(begin(1, 1), quorum(66, 99), hold(1, 0, 25, 100), hold(0, 0, 14, 98), lacking(0, 0)),
                         [0, 5, 14])

    def test_large_numbers(self):
        lowers = (97, 89, 83, 79)
        calls = [hold(0, j, 1, 1) for j in range(4)]
        shares = [hold(1 + j, 4, 1, lower) for j, lower in enumerate(lowers)]
        lack = Fraction(70, 71) - Fraction(1, 73) - sum(Fraction(1, lower) for lower in lowers)
        self.assertGreater(lack.denominator, 2 ** 32)
        self.assertEqual(last(begin(1, 5), *calls, *shares, hold(0, 4, 1, 73), quorum(70, 71), lacking(0, 4)),
                         [0, lack.numerator, lack.denominator])

    def test_no_such_person_or_company(self):
        for m in range(1, 5):
            for n in range(1, 6):
                with self.subTest(m=m, n=n):
                    self.assertEqual(told(begin(m, n), lacking(m - 1, n - 1), lacking(m, n - 1), lacking(m - 1, n),
                                          lacking(m, n), lacking(BIGGEST, 0), lacking(0, BIGGEST)),
                                     [[0], [0, 3, 5], NO_SUCH, NO_SUCH, NO_SUCH, NO_SUCH, NO_SUCH])

    def test_before_a_begin(self):
        self.assertEqual(told(lacking(0, 0), lacking(BIGGEST, BIGGEST)), [NOT_BEGUN, NOT_BEGUN])


class Cheapest(unittest.TestCase):
    def test_what_they_lack_of_it(self):
        self.assertEqual(last(begin(1, 1), cheapest(0, 0)), [1, 60, 1, 0, 3, 5])
        self.assertEqual(last(begin(1, 1), hold(0, 0, 1, 2), cheapest(0, 0)), [1, 10, 1, 0, 1, 10])

    def test_each_person_has_a_way_of_their_own(self):
        calls = (begin(3, 1), hold(0, 0, 1, 2), hold(1, 0, 1, 4))
        self.assertEqual(replies(calls, [cheapest(p, 0) for p in range(3)]),
                         [[1, 10, 1, 0, 1, 10], [1, 35, 1, 0, 7, 20], [1, 60, 1, 0, 3, 5]])

    def test_nobody_needed_where_it_is_ruled_already(self):
        calls = (begin(2, 2), hold(0, 0, 3, 5), hold(2, 1, 3, 5))
        self.assertEqual(replies(calls, [cheapest(0, 0), cheapest(0, 1)]), [[0, 0, 1], [0, 0, 1]])
        self.assertEqual(last(*calls, prices(0, 0), cheapest(0, 1)), [0, 0, 1])

    def test_just_below_the_quorum(self):
        self.assertEqual(last(begin(1, 1), hold(0, 0, 59, 100), cheapest(0, 0)), [1, 1, 1, 0, 1, 100])

    def test_a_quorum_of_1(self):
        self.assertEqual(last(begin(1, 1), quorum(1, 1), cheapest(0, 0)), [1, 100, 1, 0, 1, 1])
        self.assertEqual(last(begin(1, 1), quorum(1, 1), hold(0, 0, 99, 100), cheapest(0, 0)), [1, 1, 1, 0, 1, 100])

    def test_a_company_that_holds_itself(self):
        self.assertEqual(last(begin(1, 1), hold(1, 0, 1, 2), cheapest(0, 0)), [1, 30, 1, 0, 3, 10])

    def test_bought_what_holds_itself_counts_no_more_for_that(self):
        # Company 0 holds a third of itself and a third of company 1.
        calls = (begin(1, 2), hold(1, 0, 1, 3), hold(1, 1, 1, 3), prices(0, 100))
        self.assertEqual(last(*calls, cheapest(0, 1)), [2, 80, 3, 0, 2, 5, 1, 4, 15])

    def test_a_price_of_0(self):
        self.assertEqual(last(begin(1, 1), prices(0), cheapest(0, 0)), [1, 0, 1, 0, 3, 5])

    def test_a_price_of_1000(self):
        self.assertEqual(last(begin(1, 1), prices(1000), quorum(2, 3), cheapest(0, 0)), [1, 2000, 3, 0, 2, 3])

    def test_what_costs_nothing_is_bought_where_it_saves(self):
        calls = (begin(1, 2), prices(0, 100), hold(1, 1, 1, 5))
        self.assertEqual(last(*calls, cheapest(0, 1)), [2, 40, 1, 0, 3, 5, 1, 2, 5])

    def test_what_costs_nothing_is_not_bought_where_it_saves_nothing(self):
        self.assertEqual(last(begin(1, 3), prices(0, 100, 0), cheapest(0, 1)), [1, 60, 1, 1, 3, 5])
        # Company 0 holds of company 1, but that costs nothing either.
        self.assertEqual(last(begin(1, 2), prices(0, 0), hold(1, 1, 1, 5), cheapest(0, 1)), [1, 0, 1, 1, 3, 5])

    def test_by_way_of_another_one(self):
        self.assertEqual(last(begin(1, 2), prices(10, 1000), hold(1, 1, 3, 5), cheapest(0, 1)), [1, 6, 1, 0, 3, 5])

    def test_by_way_of_one_that_rules_by_way_of_others(self):
        chain = [hold(1 + j, j + 1, 3, 5) for j in range(4)]
        self.assertEqual(last(begin(1, 5), prices(5, 100, 100, 100, 100), *chain, cheapest(0, 4)), [1, 3, 1, 0, 3, 5])
        self.assertEqual(last(begin(1, 5), prices(9, 8, 7, 5, 6), *chain, cheapest(0, 4)), [1, 3, 1, 3, 3, 5])

    def test_not_by_way_of_one_where_it_is_dearer(self):
        self.assertEqual(last(begin(1, 2), prices(101, 100), hold(1, 1, 3, 5), cheapest(0, 1)), [1, 60, 1, 1, 3, 5])

    def test_cheaper_by_way_of_two_others(self):
        calls = (begin(1, 3), prices(10, 20, 1000), hold(1, 2, 3, 10), hold(2, 2, 3, 10))
        self.assertEqual(last(*calls, cheapest(0, 2)), [2, 18, 1, 0, 3, 5, 1, 3, 5])

    def test_by_way_of_two_others_and_a_rest(self):
        calls = (begin(1, 3), prices(10, 20, 1000), hold(1, 2, 3, 10), hold(2, 2, 29, 100))
        self.assertEqual(last(*calls, cheapest(0, 2)), [3, 28, 1, 0, 3, 5, 1, 3, 5, 2, 1, 100])

    def test_by_way_of_all_others(self):
        shares = [hold(1 + j, 4, 3, 20) for j in range(4)]
        self.assertEqual(last(begin(1, 5), prices(1, 2, 3, 4, 1000), *shares, cheapest(0, 4)),
                         [4, 6, 1, 0, 3, 5, 1, 3, 5, 2, 3, 5, 3, 3, 5])
        self.assertEqual(last(begin(1, 5), prices(1, 2, 3, 4, 1000), *shares[1:], hold(1, 4, 14, 100), cheapest(0, 4)),
                         [5, 16, 1, 0, 3, 5, 1, 3, 5, 2, 3, 5, 3, 3, 5, 4, 1, 100])

    def test_in_the_order_that_costs_less(self):
        # Company 1 holds of company 0: bought first it makes that one cheaper.
        calls = (begin(1, 3), prices(100, 100, 1000), hold(1, 2, 3, 10), hold(2, 2, 3, 10), hold(2, 0, 1, 5))
        self.assertEqual(last(*calls, cheapest(0, 2)), [2, 100, 1, 1, 3, 5, 0, 2, 5])

    def test_what_is_bought_may_bring_another_one_that_is_not_bought(self):
        # Company 0 rules company 1, and both together have enough of company 2.
        calls = (begin(1, 3), prices(10, 1, 1000), hold(1, 1, 3, 5), hold(1, 2, 3, 10), hold(2, 2, 3, 10))
        self.assertEqual(last(*calls, cheapest(0, 2)), [1, 6, 1, 0, 3, 5])

    def test_with_what_is_ruled_already(self):
        calls = (begin(2, 3), prices(1, 50, 1000), hold(0, 0, 1, 1), hold(2, 2, 1, 2), hold(2, 1, 1, 5),
                 hold(3, 2, 1, 10))
        self.assertEqual(replies(calls, [cheapest(0, 2), cheapest(1, 2)]),
                         [[1, 20, 1, 1, 2, 5], [2, 103, 5, 0, 3, 5, 1, 2, 5]])

    def test_a_ring_that_rules_itself(self):
        ring = (begin(1, 2), hold(1, 1, 3, 5), hold(2, 0, 3, 5))
        self.assertEqual(replies(ring, [cheapest(0, 0), cheapest(0, 1)]), [[1, 60, 1, 0, 3, 5], [1, 60, 1, 0, 3, 5]])
        self.assertEqual(replies((*ring, prices(100, 99)), [cheapest(0, 0), cheapest(0, 1)]),
                         [[1, 297, 5, 1, 3, 5], [1, 297, 5, 1, 3, 5]])

    def test_one_that_another_person_rules(self):
        self.assertEqual(last(begin(2, 1), hold(0, 0, 1, 1), cheapest(1, 0)), [1, 60, 1, 0, 3, 5])

    def test_more_than_what_is_strewn_may_be_bought(self):
        self.assertEqual(last(begin(2, 1), hold(0, 0, 4, 5), quorum(1, 1), cheapest(1, 0)), [1, 100, 1, 0, 1, 1])

    def test_no_way_to_a_company_without_votes(self):
        calls = (begin(2, 2), hold(2, 0, 1, 1), hold(2, 1, 1, 2))
        self.assertEqual(replies(calls, [cheapest(0, 0), cheapest(1, 0), cheapest(0, 1)]),
                         [NONE_OR_TOO_MUCH, NONE_OR_TOO_MUCH, [1, 60, 1, 1, 3, 5]])

    def test_what_has_no_votes_is_not_bought_on_the_way(self):
        # Company 0 holds all of company 1, and would cost nothing; but it holds all of itself too.
        calls = (begin(1, 2), prices(0, 1000), hold(1, 0, 1, 1), hold(1, 1, 1, 1))
        self.assertEqual(last(*calls, cheapest(0, 1)), [1, 600, 1, 1, 3, 5])

    def test_hardly_any_votes_are_enough(self):
        calls = (begin(1, 2), prices(100, 1000), hold(1, 0, 99, 100), hold(1, 1, 1, 1))
        self.assertEqual(replies(calls, [cheapest(0, 0), cheapest(0, 1)]), [[1, 3, 5, 0, 3, 500], [1, 3, 5, 0, 3, 500]])

    def test_in_lowest_terms(self):
        self.assertEqual(last(begin(1, 1), quorum(66, 99), prices(7), hold(1, 0, 25, 100), hold(0, 0, 14, 98),
                              cheapest(0, 0)),
                         [1, 5, 2, 0, 5, 14])

    def test_asking_buys_nothing(self):
        self.assertEqual(told(begin(1, 1), cheapest(0, 0), part(0, 0), rules(0), cheapest(0, 0), state())[2:],
                         [[0, 0, 1], [0], [1, 60, 1, 0, 3, 5], [1, 1, 3, 5, 100]])

    def test_follows_prices_and_quorum(self):
        calls = (begin(1, 2), hold(1, 1, 4, 5))
        self.assertEqual(told(*calls, prices(1, 2), cheapest(0, 1), prices(2, 1), cheapest(0, 1), quorum(4, 5),
                              cheapest(0, 1), prices(1, 2), cheapest(0, 1))[2:],
                         [[0], [1, 3, 5, 0, 3, 5], [0], [1, 3, 5, 1, 3, 5], [0],
                          [1, 4, 5, 1, 4, 5], [0], [1, 4, 5, 0, 4, 5]])

    def test_no_such_person_or_company(self):
        for m in range(1, 5):
            for n in range(1, 6):
                with self.subTest(m=m, n=n):
                    self.assertEqual(told(begin(m, n), cheapest(m - 1, n - 1), cheapest(m, n - 1), cheapest(m - 1, n),
                                          cheapest(m, n), cheapest(BIGGEST, 0), cheapest(0, BIGGEST)),
                                     [[0], [1, 60, 1, n - 1, 3, 5], NO_SUCH, NO_SUCH, NO_SUCH, NO_SUCH, NO_SUCH])

    def test_no_such_person_goes_ahead_of_no_way(self):
        self.assertEqual(told(begin(1, 1), hold(1, 0, 1, 1), cheapest(0, 0), cheapest(1, 0), cheapest(0, 1))[2:],
                         [NONE_OR_TOO_MUCH, NO_SUCH, NO_SUCH])

    def test_before_a_begin(self):
        self.assertEqual(told(cheapest(0, 0), cheapest(BIGGEST, BIGGEST)), [NOT_BEGUN, NOT_BEGUN])


class OfLikeWays(unittest.TestCase):
    def test_the_one_that_buys_of_the_fewest(self):
        shares = (hold(1, 2, 3, 10), hold(2, 2, 3, 10))
        self.assertEqual(last(begin(1, 3), prices(10, 10, 20), *shares, cheapest(0, 2)), [1, 12, 1, 2, 3, 5])
        self.assertEqual(last(begin(1, 3), prices(10, 10, 21), *shares, cheapest(0, 2)),
                         [2, 12, 1, 0, 3, 5, 1, 3, 5])

    def test_the_fewest_go_ahead_of_the_lesser_number(self):
        # Company 0 with company 1 costs as much as company 3 alone.
        calls = (begin(1, 4), hold(0, 2, 1, 5), hold(1, 2, 1, 5), hold(2, 2, 1, 5), hold(4, 2, 2, 5))
        self.assertEqual(last(*calls, prices(10, 10, 1000, 20), cheapest(0, 2)), [1, 12, 1, 3, 3, 5])
        self.assertEqual(last(*calls, prices(10, 10, 1000, 21), cheapest(0, 2)), [2, 12, 1, 0, 3, 5, 1, 3, 5])

    def test_the_lesser_number(self):
        self.assertEqual(last(begin(1, 3), hold(1, 2, 3, 5), cheapest(0, 2)), [1, 60, 1, 0, 3, 5])
        self.assertEqual(last(begin(1, 3), hold(3, 0, 3, 5), cheapest(0, 0)), [1, 60, 1, 0, 3, 5])

    def test_of_the_same_companies_the_lesser_one_first(self):
        shares = (hold(2, 0, 3, 10), hold(4, 0, 3, 10))
        self.assertEqual(last(begin(1, 4), prices(1000, 5, 5, 5), *shares, cheapest(0, 0)),
                         [2, 6, 1, 1, 3, 5, 3, 3, 5])

    def test_where_two_first_differ_later_on(self):
        # 0 and then 2 costs as much as 0 and then 3.
        shares = (hold(0, 4, 1, 5), hold(1, 4, 3, 10), hold(3, 4, 1, 10), hold(4, 4, 1, 10))
        self.assertEqual(last(begin(1, 5), prices(10, 10, 20, 20, 1000), *shares, cheapest(0, 4)),
                         [2, 18, 1, 0, 3, 5, 2, 3, 5])

    def test_in_the_order_in_which_they_are_bought(self):
        # 1 and then 3 costs as much as 2 and then 0, which costs less than 0 and then 2: it is 1 against 2.
        shares = (hold(0, 4, 1, 5), hold(1, 4, 1, 5), hold(3, 4, 1, 5), hold(2, 4, 1, 10), hold(4, 4, 3, 10))
        calls = (begin(1, 5), prices(60, 10, 50, 90, 1000), *shares, hold(3, 0, 1, 10))
        self.assertEqual(last(*calls, cheapest(0, 4)), [2, 60, 1, 1, 3, 5, 3, 3, 5])
        # A hair dearer, and the other one is the cheapest.
        self.assertEqual(last(*calls, prices(60, 10, 50, 91, 1000), cheapest(0, 4)), [2, 60, 1, 2, 3, 5, 0, 1, 2])
