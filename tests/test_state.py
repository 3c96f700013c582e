"""Point 1: state; and, asked by state and part, what is refused, asked, or begun anew."""

import unittest

from tests.lines import (
    BIGGEST, NOT_BEGUN, begin, cheapest, free, hold, lacking, last, least, part, prices, quorum, replies, ruler, rules,
    selfruled, state, together, told, votes, weight)

# Two people and three companies, with nothing as it is after a begin.
MADE = (begin(2, 3), quorum(2, 3), prices(7, 0, 1000), hold(0, 0, 1, 3), hold(1, 0, 1, 4), hold(2, 1, 3, 4),
        hold(4, 2, 1, 1))
MADE_STATE = [2, 3, 2, 3, 7, 0, 1000]
ALL_PARTS = [part(h, j) for h in range(5) for j in range(3)]

REFUSED = (
    (begin(0, 3), -22), (begin(5, 3), -22), (begin(2, 0), -22), (begin(2, 6), -22),
    (hold(5, 0, 1, 10), -2), (hold(0, 3, 1, 10), -2), (hold(0, 0, 1, 0), -22), (hold(0, 0, 1, 101), -22),
    (hold(0, 0, 2, 1), -22), (hold(0, 0, 76, 100), -33), (hold(0, 2, 1, 100), -33),
    (part(5, 0), -2), (part(0, 3), -2),
    (quorum(3, 0), -22), (quorum(60, 101), -22), (quorum(3, 2), -22), (quorum(1, 2), -22),
    (prices(), -22), (prices(1, 2), -22), (prices(1, 2, 3, 4), -22), (prices(1, 2, 1001), -22),
    (votes(3), -2), (rules(2), -2), (ruler(3), -2), (ruler(0), -33), (together(4), -22), (least(3), -2),
    (weight(2, 0), -2), (weight(0, 3), -2), (cheapest(2, 0), -2), (cheapest(0, 3), -2), (cheapest(0, 2), -33),
    (lacking(2, 0), -2), (lacking(0, 3), -2),
)

ASKED = ([part(0, 0), votes(0), selfruled(), free(), state()] + [rules(p) for p in range(2)]
         + [ruler(j) for j in range(3)] + [together(s) for s in range(4)] + [least(j) for j in range(3)]
         + [weight(p, j) for p in range(2) for j in range(3)] + [cheapest(p, j) for p in range(2) for j in range(3)]
         + [lacking(p, j) for p in range(2) for j in range(3)])


class State(unittest.TestCase):
    def test_behind_a_begin(self):
        for m in range(1, 5):
            for n in range(1, 6):
                with self.subTest(m=m, n=n):
                    self.assertEqual(last(begin(m, n), state()), [m, n, 3, 5] + [100] * n)

    def test_tells_quorum_and_prices(self):
        self.assertEqual(last(begin(3, 4), quorum(51, 100), prices(0, 1, 999, 1000), state()),
                         [3, 4, 51, 100, 0, 1, 999, 1000])

    def test_the_quorum_in_lowest_terms(self):
        for a, b, upper, lower in ((66, 99, 2, 3), (100, 100, 1, 1), (1, 1, 1, 1), (75, 100, 3, 4), (50, 99, 50, 99)):
            with self.subTest(a=a, b=b):
                self.assertEqual(last(begin(1, 1), quorum(a, b), state()), [1, 1, upper, lower, 100])

    def test_what_is_held_is_not_told(self):
        self.assertEqual(last(begin(1, 1), hold(0, 0, 1, 2), state()), [1, 1, 3, 5, 100])

    def test_the_later_one_counts(self):
        self.assertEqual(last(begin(1, 2), quorum(2, 3), prices(1, 2), quorum(3, 4), prices(3, 4), state()),
                         [1, 2, 3, 4, 3, 4])

    def test_before_a_begin(self):
        self.assertEqual(told(state(), begin(0, 0), state(), begin(1, 1), state()),
                         [NOT_BEGUN, [-22], NOT_BEGUN, [0], [1, 1, 3, 5, 100]])


class WhatIsRefused(unittest.TestCase):
    def test_changes_nothing(self):
        before = replies(MADE, [state()] + ALL_PARTS)
        self.assertEqual(before[0], MADE_STATE)
        for call, number in REFUSED:
            with self.subTest(call=call):
                rows = told(*MADE, call, state(), *ALL_PARTS)
                self.assertEqual(rows[len(MADE)], [number])
                self.assertEqual(rows[len(MADE) + 1:], before)

    def test_changes_no_other_answer(self):
        before = replies(MADE, ASKED)
        for call, number in REFUSED:
            with self.subTest(call=call):
                self.assertEqual(replies((*MADE, call), ASKED), before)


class WhatIsAsked(unittest.TestCase):
    def test_changes_nothing(self):
        before = replies(MADE, [state()] + ALL_PARTS)
        for call in ASKED:
            with self.subTest(call=call):
                self.assertEqual(told(*MADE, call, state(), *ALL_PARTS)[len(MADE) + 1:], before)

    def test_answers_the_same_again(self):
        for call in ASKED:
            with self.subTest(call=call):
                rows = told(*MADE, call, call, call)[len(MADE):]
                self.assertEqual(rows[1:], [rows[0], rows[0]])


class ALaterBegin(unittest.TestCase):
    def test_makes_all_new(self):
        for m, n in ((2, 3), (1, 1), (4, 5), (2, 5), (4, 3)):
            with self.subTest(m=m, n=n):
                parts = [part(h, j) for h in range(m + n) for j in range(n)]
                rows = replies((*MADE, begin(m, n)), [state()] + parts)
                self.assertEqual(rows, [[m, n, 3, 5] + [100] * n] + [[0, 0, 1]] * len(parts))

    def test_answers_as_if_it_were_the_first(self):
        calls = (hold(0, 0, 3, 5), hold(2, 1, 3, 5))
        self.assertEqual(replies((*MADE, begin(2, 3), *calls), ASKED), replies((begin(2, 3), *calls), ASKED))

    def test_there_are_no_more_people_and_companies_than_it_tells(self):
        self.assertEqual(told(*MADE, begin(1, 2), together(2), together(1), weight(1, 0), cheapest(0, 2), lacking(1, 1),
                              least(2), least(BIGGEST))[len(MADE):],
                         [[0], [-22], [0], [-2], [-2], [-2], [-2], [-2]])

    def test_that_is_refused_changes_nothing(self):
        for m, n in ((0, 3), (5, 3), (2, 0), (2, 6), (BIGGEST, BIGGEST)):
            with self.subTest(m=m, n=n):
                self.assertEqual(told(*MADE, begin(m, n), state())[len(MADE):], [[-22], MADE_STATE])
                self.assertEqual(replies((*MADE, begin(m, n)), ASKED), replies(MADE, ASKED))
