"""Point 2: selfruled and free."""

import unittest

from tests.lines import begin, cheapest, free, hold, last, quorum, ruler, rules, selfruled, together, told

# A ring of the companies 0 and 1, behind two people.
RING = (begin(2, 4), hold(2, 1, 3, 5), hold(3, 0, 3, 5))


class SelfRuled(unittest.TestCase):
    def test_none_where_nothing_is_held(self):
        for n in range(1, 6):
            self.assertEqual(last(begin(1, n), selfruled()), [0])

    def test_a_ring_of_two(self):
        self.assertEqual(last(*RING, selfruled()), [2, 0, 1])

    def test_just_as_much_as_the_quorum(self):
        self.assertEqual(last(*RING, hold(3, 0, 59, 100), selfruled()), [0])
        self.assertEqual(last(*RING, hold(3, 0, 60, 100), selfruled()), [2, 0, 1])

    def test_a_quorum_of_1(self):
        whole = (begin(1, 2), quorum(1, 1), hold(1, 1, 1, 1))
        self.assertEqual(last(*whole, hold(2, 0, 1, 1), selfruled()), [2, 0, 1])
        self.assertEqual(last(*whole, hold(2, 0, 99, 100), selfruled()), [0])

    def test_a_larger_ring(self):
        for n in (3, 4, 5):
            with self.subTest(n=n):
                ring = [hold(1 + j, (j + 1) % n, 2, 3) for j in range(n)]
                self.assertEqual(last(begin(1, n), *ring, selfruled()), [n, *range(n)])
                self.assertEqual(last(begin(1, n), *ring[1:], selfruled()), [0])

    def test_a_ring_with_something_hanging_on_it(self):
        self.assertEqual(last(*RING, hold(2, 3, 3, 5), selfruled()), [3, 0, 1, 3])
        self.assertEqual(last(*RING, hold(2, 3, 3, 10), hold(3, 3, 3, 10), selfruled()), [3, 0, 1, 3])
        self.assertEqual(last(*RING, hold(2, 3, 3, 5), hold(5, 2, 3, 5), selfruled()), [4, 0, 1, 2, 3])

    def test_hanging_on_it_by_too_little(self):
        self.assertEqual(last(*RING, hold(2, 3, 59, 100), selfruled()), [2, 0, 1])

    def test_what_a_ring_hangs_on_is_not_self_ruled(self):
        # Company 2 holds of the ring, but nobody holds company 2.
        self.assertEqual(last(*RING, hold(4, 0, 2, 5), selfruled()), [2, 0, 1])

    def test_two_rings(self):
        self.assertEqual(last(*RING, hold(4, 3, 1, 1), hold(5, 2, 1, 1), selfruled()), [4, 0, 1, 2, 3])

    def test_a_ring_that_holds_only_with_a_third(self):
        # Each is held by the two others, by neither of these alone.
        three = [hold(1 + i, j, 3, 10) for i in range(3) for j in range(3) if i != j]
        self.assertEqual(last(begin(1, 3), *three, selfruled()), [3, 0, 1, 2])
        self.assertEqual(last(begin(1, 3), *three[1:], selfruled()), [0])

    def test_a_company_that_holds_itself_is_not_self_ruled_by_that(self):
        for a in (60, 99, 100):
            self.assertEqual(last(begin(1, 2), hold(1, 0, a, 100), selfruled()), [0])

    def test_what_a_company_holds_of_itself_makes_less_enough(self):
        half = (begin(1, 2), hold(1, 0, 1, 2), hold(1, 1, 3, 5))
        self.assertEqual(last(*half, hold(2, 0, 3, 10), selfruled()), [2, 0, 1])
        self.assertEqual(last(*half, hold(2, 0, 29, 100), selfruled()), [0])

    def test_a_company_without_votes_is_not_self_ruled(self):
        # It holds others all the same, which isn't enough without it.
        self.assertEqual(last(begin(1, 2), hold(1, 0, 1, 1), hold(1, 1, 1, 1), selfruled()), [0])

    def test_what_people_hold_does_not_count(self):
        self.assertEqual(last(begin(1, 2), hold(1, 1, 3, 5), hold(2, 0, 3, 10), hold(0, 0, 3, 10), selfruled()), [0])

    def test_a_ring_that_is_ruled_at_one_end_is_not_self_ruled(self):
        ring = (begin(2, 2), hold(2, 1, 3, 5), hold(3, 0, 2, 5), hold(1, 0, 3, 5))
        self.assertEqual(told(*ring, selfruled(), rules(1))[4:], [[0], [2, 0, 1]])

    def test_who_is_self_ruled_is_ruled_by_nobody(self):
        ring = (*RING, hold(0, 0, 2, 5), hold(1, 1, 2, 5))
        self.assertEqual(told(*ring, selfruled(), ruler(0), ruler(1), together(3))[5:],
                         [[2, 0, 1], [-33], [-33], [0]])

    def test_follows_what_is_held_and_the_quorum_now(self):
        self.assertEqual(told(*RING, selfruled(), quorum(2, 3), selfruled(), quorum(51, 100), selfruled(),
                              hold(2, 1, 0, 1), selfruled())[3:],
                         [[2, 0, 1], [0], [0], [0], [2, 0, 1], [0, 3, 5], [0]])

    def test_the_people_are_not_mixed_up_with_the_companies(self):
        for m in range(1, 5):
            with self.subTest(m=m):
                self.assertEqual(last(begin(m, 3), hold(m + 1, 2, 1, 1), hold(m + 2, 1, 1, 1), selfruled()), [2, 1, 2])


class Free(unittest.TestCase):
    def test_all_where_nothing_is_held(self):
        for n in range(1, 6):
            self.assertEqual(last(begin(1, n), free()), [n, *range(n)])

    def test_none_where_all_are_ruled_or_self_ruled(self):
        self.assertEqual(last(*RING, hold(1, 2, 1, 1), hold(4, 3, 1, 1), free()), [0])

    def test_not_those_that_a_person_rules(self):
        self.assertEqual(last(begin(2, 3), hold(1, 1, 3, 5), free()), [2, 0, 2])
        self.assertEqual(last(begin(2, 3), hold(1, 1, 3, 5), hold(3, 0, 3, 5), free()), [1, 2])
        self.assertEqual(last(begin(2, 3), hold(1, 1, 3, 5), hold(0, 0, 1, 1), free()), [1, 2])

    def test_not_those_that_are_self_ruled(self):
        self.assertEqual(last(*RING, free()), [2, 2, 3])
        self.assertEqual(last(*RING, hold(3, 2, 1, 1), free()), [1, 3])

    def test_ruled_by_several_together_alone_is_free(self):
        shared = (begin(2, 1), hold(0, 0, 1, 2), hold(1, 0, 1, 2))
        self.assertEqual(told(*shared, together(3), free())[3:], [[1, 0], [1, 0]])

    def test_without_votes_is_free(self):
        self.assertEqual(last(begin(1, 2), hold(1, 0, 1, 1), hold(0, 1, 1, 1), free()), [1, 0])

    def test_strewn_is_free_though_it_may_be_bought(self):
        self.assertEqual(told(begin(1, 1), free(), cheapest(0, 0), free()),
                         [[0], [1, 0], [1, 60, 1, 0, 3, 5], [1, 0]])

    def test_just_below_the_quorum_is_free(self):
        self.assertEqual(last(begin(1, 1), hold(0, 0, 59, 100), free()), [1, 0])
        self.assertEqual(last(begin(1, 1), hold(0, 0, 60, 100), free()), [0])
