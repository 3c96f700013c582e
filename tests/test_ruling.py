"""Point 2: votes, rules, ruler."""

import unittest

from tests.lines import BIGGEST, NONE_OR_TOO_MUCH, NO_SUCH, begin, hold, last, part, quorum, ruler, rules, told, votes


class Votes(unittest.TestCase):
    def test_all_where_nothing_is_held(self):
        self.assertEqual(last(begin(1, 1), votes(0)), [0, 1, 1])

    def test_less_what_the_company_holds_of_itself(self):
        self.assertEqual(told(begin(2, 3), hold(3, 1, 6, 16), votes(0), votes(1), votes(2))[2:],
                         [[0, 1, 1], [0, 5, 8], [0, 1, 1]])

    def test_what_others_hold_does_not_matter(self):
        self.assertEqual(last(begin(2, 2), hold(0, 0, 1, 2), hold(3, 0, 1, 2), votes(0)), [0, 1, 1])

    def test_what_it_holds_of_others_does_not_matter(self):
        self.assertEqual(last(begin(2, 2), hold(2, 1, 1, 2), votes(0)), [0, 1, 1])

    def test_none_where_it_holds_all_of_itself(self):
        self.assertEqual(last(begin(1, 1), hold(1, 0, 100, 100), votes(0)), [0, 0, 1])

    def test_hardly_any(self):
        self.assertEqual(last(begin(1, 1), hold(1, 0, 99, 100), votes(0)), [0, 1, 100])

    def test_no_such_company(self):
        self.assertEqual(told(begin(4, 2), votes(1), votes(2), votes(BIGGEST)), [[0], [0, 1, 1], NO_SUCH, NO_SUCH])


class Rules(unittest.TestCase):
    def test_nothing_where_nothing_is_held(self):
        self.assertEqual(told(begin(2, 2), rules(0), rules(1), ruler(0), ruler(1)),
                         [[0], [0], [0], NONE_OR_TOO_MUCH, NONE_OR_TOO_MUCH])

    def test_just_as_much_as_the_quorum(self):
        self.assertEqual(last(begin(1, 1), hold(0, 0, 3, 5), rules(0)), [1, 0])
        self.assertEqual(last(begin(1, 1), hold(0, 0, 59, 99), rules(0)), [0])
        self.assertEqual(last(begin(1, 1), hold(0, 0, 59, 98), rules(0)), [1, 0])

    def test_just_as_much_together_with_a_ruled_company(self):
        own = (begin(1, 2), hold(0, 0, 1, 1), hold(0, 1, 1, 3))
        self.assertEqual(last(*own, hold(1, 1, 4, 15), rules(0)), [2, 0, 1])
        self.assertEqual(last(*own, hold(1, 1, 26, 98), rules(0)), [1, 0])

    def test_a_quorum_of_1(self):
        whole = (begin(2, 2), quorum(1, 1), hold(0, 0, 1, 1), hold(0, 1, 99, 100))
        self.assertEqual(last(*whole, rules(0)), [1, 0])
        self.assertEqual(last(*whole, hold(2, 1, 1, 100), rules(0)), [2, 0, 1])
        self.assertEqual(last(*whole, hold(1, 1, 1, 100), rules(0)), [1, 0])

    def test_a_quorum_of_1_of_what_is_not_held_by_itself(self):
        self.assertEqual(last(begin(1, 1), quorum(1, 1), hold(1, 0, 3, 4), hold(0, 0, 1, 4), rules(0)), [1, 0])
        self.assertEqual(last(begin(1, 1), quorum(1, 1), hold(1, 0, 3, 4), hold(0, 0, 24, 97), rules(0)), [0])

    def test_a_company_that_holds_itself_needs_less(self):
        self.assertEqual(last(begin(1, 1), hold(1, 0, 1, 2), hold(0, 0, 3, 10), rules(0)), [1, 0])
        self.assertEqual(last(begin(1, 1), hold(1, 0, 1, 2), hold(0, 0, 29, 100), rules(0)), [0])

    def test_what_it_holds_of_itself_does_not_help(self):
        self.assertEqual(last(begin(1, 1), hold(1, 0, 2, 5), hold(0, 0, 35, 100), rules(0)), [0])
        self.assertEqual(last(begin(1, 2), hold(0, 0, 1, 1), hold(2, 1, 2, 5), hold(1, 1, 35, 100), rules(0)), [1, 0])

    def test_a_company_that_holds_all_of_itself_is_ruled_by_nobody(self):
        whole = (begin(2, 2), hold(2, 0, 1, 1), hold(2, 1, 1, 1))
        self.assertEqual(told(*whole, rules(0), rules(1), ruler(0), ruler(1))[3:],
                         [[0], [0], NONE_OR_TOO_MUCH, NONE_OR_TOO_MUCH])

    def test_a_ring_of_two_is_ruled_by_nobody(self):
        ring = (begin(2, 2), hold(2, 1, 3, 5), hold(3, 0, 3, 5), hold(0, 0, 2, 5), hold(0, 1, 2, 5))
        self.assertEqual(told(*ring, rules(0), rules(1), ruler(0), ruler(1))[5:],
                         [[0], [0], NONE_OR_TOO_MUCH, NONE_OR_TOO_MUCH])

    def test_a_ring_of_two_that_is_ruled_at_one_end(self):
        ring = (begin(2, 2), hold(2, 1, 3, 5), hold(3, 0, 2, 5), hold(1, 0, 3, 5))
        self.assertEqual(told(*ring, rules(0), rules(1), ruler(0), ruler(1))[4:], [[0], [2, 0, 1], [1], [1]])

    def test_by_way_of_another_one(self):
        way = (begin(3, 3), hold(2, 2, 2, 3), hold(5, 0, 2, 3))
        self.assertEqual(told(*way, rules(2), ruler(0), ruler(1), ruler(2))[3:],
                         [[2, 0, 2], [2], NONE_OR_TOO_MUCH, [2]])

    def test_not_by_way_of_one_that_is_not_ruled(self):
        self.assertEqual(told(begin(1, 2), hold(0, 0, 1, 2), hold(1, 1, 1, 1), rules(0), ruler(1))[3:],
                         [[0], NONE_OR_TOO_MUCH])

    def test_by_way_of_four_against_the_numbers(self):
        # Each company is ruled by way of the next one alone, so a single walk from 0 on isn't enough.
        chain = [hold(1 + j, j - 1, 3, 5) for j in range(1, 5)]
        self.assertEqual(last(begin(1, 5), *chain, hold(0, 4, 3, 5), rules(0)), [5, 0, 1, 2, 3, 4])

    def test_by_way_of_four_along_the_numbers(self):
        chain = [hold(1 + j, j + 1, 3, 5) for j in range(4)]
        self.assertEqual(last(begin(1, 5), *chain, hold(0, 0, 3, 5), rules(0)), [5, 0, 1, 2, 3, 4])

    def test_by_way_of_two_together(self):
        both = (begin(1, 3), hold(0, 0, 1, 1), hold(0, 2, 1, 1), hold(1, 1, 3, 10))
        self.assertEqual(last(*both, rules(0)), [2, 0, 2])
        self.assertEqual(last(*both, hold(3, 1, 3, 10), rules(0)), [3, 0, 1, 2])

    def test_companies_of_another_person_do_not_count(self):
        self.assertEqual(told(begin(2, 3), hold(0, 0, 1, 1), hold(1, 1, 1, 1), hold(2, 2, 1, 2), hold(3, 2, 1, 2),
                              rules(0), rules(1), ruler(2))[5:],
                         [[1, 0], [1, 1], NONE_OR_TOO_MUCH])

    def test_two_people_do_not_rule_by_what_they_hold_together(self):
        self.assertEqual(told(begin(2, 1), hold(0, 0, 1, 2), hold(1, 0, 1, 2), rules(0), rules(1), ruler(0))[3:],
                         [[0], [0], NONE_OR_TOO_MUCH])

    def test_fractions_that_add_up_exactly(self):
        owned = [hold(0, j, 1, 1) for j in range(3)]
        shares = (hold(1, 3, 1, 7), hold(2, 3, 1, 5), hold(3, 3, 9, 35))
        self.assertEqual(last(begin(1, 4), *owned, *shares, rules(0)), [4, 0, 1, 2, 3])

    def test_follows_what_is_held_now(self):
        self.assertEqual(told(begin(2, 1), hold(0, 0, 1, 1), ruler(0), hold(0, 0, 0, 1), ruler(0), hold(1, 0, 1, 1),
                              ruler(0)),
                         [[0], [0, 0, 1], [0], [0, 1, 1], NONE_OR_TOO_MUCH, [0, 0, 1], [1]])

    def test_no_such_person(self):
        self.assertEqual(told(begin(2, 5), rules(1), rules(2), rules(BIGGEST)), [[0], [0], NO_SUCH, NO_SUCH])

    def test_asking_changes_nothing(self):
        whole = (begin(1, 2), hold(0, 0, 1, 1), hold(1, 1, 3, 5))
        asked = (rules(0), ruler(1), votes(1), part(1, 1), part(0, 0))
        rows = told(*whole, *asked, *asked)
        self.assertEqual(rows[3:8], [[2, 0, 1], [0], [0, 1, 1], [0, 3, 5], [0, 1, 1]])
        self.assertEqual(rows[8:], rows[3:8])


class Ruler(unittest.TestCase):
    def test_who_does(self):
        for person in range(4):
            with self.subTest(person=person):
                self.assertEqual(last(begin(4, 2), hold(person, 1, 3, 5), ruler(1)), [person])

    def test_nobody(self):
        self.assertEqual(last(begin(4, 2), hold(0, 1, 1, 2), hold(1, 1, 1, 2), ruler(1)), NONE_OR_TOO_MUCH)

    def test_no_such_company(self):
        self.assertEqual(told(begin(4, 2), hold(0, 1, 1, 1), ruler(1), ruler(2), ruler(BIGGEST))[2:],
                         [[0], NO_SUCH, NO_SUCH])

    def test_by_little_much(self):
        # Person 1 holds most of company 0, yet person 0 has most votes of it by way of companies 1 and 2.
        self.assertEqual(last(begin(2, 3), hold(1, 0, 2, 5), hold(0, 1, 3, 5), hold(3, 2, 3, 5), hold(3, 0, 3, 10),
                              hold(4, 0, 3, 10), ruler(0)), [0])
