"""Point 3, so far: who rules is held against the document's own words, on many made-up companies."""

import random
import unittest
from fractions import Fraction

from tests.lines import begin, hold, part, quorum, ruler, rules, told, votes

LOWERS = (1, 2, 3, 4, 5, 6, 7, 10, 20, 97, 100)


class Made:
    """People, companies and what they hold, with the holds that were taken, written as calls."""

    def __init__(self, seed):
        pick = random.Random(seed)
        self.people = pick.randint(1, 4)
        self.companies = pick.randint(1, 5)
        self.parts = {}
        self.quorum = pick.choice((Fraction(3, 5), Fraction(51, 100), Fraction(2, 3), Fraction(1)))
        self.calls = [begin(self.people, self.companies), quorum(self.quorum.numerator, self.quorum.denominator)]
        self.expected = [[0], [0]]
        for step in range(pick.randint(1, 18)):
            self.try_hold(pick)

    def held(self, holder, company):
        return self.parts.get((holder, company), Fraction(0))

    def try_hold(self, pick):
        holder = pick.randrange(self.people + self.companies)
        company = pick.randrange(self.companies)
        lower = pick.choice(LOWERS)
        upper = pick.randint(0, lower)
        self.calls.append(hold(holder, company, upper, lower))
        others = sum(self.held(other, company) for other in range(self.people + self.companies) if other != holder)
        before = self.held(holder, company)
        if others + Fraction(upper, lower) > 1:
            self.expected.append([-33])
            return
        self.expected.append([0, before.numerator, before.denominator])
        self.parts[(holder, company)] = Fraction(upper, lower)

    def votes(self, company):
        return 1 - self.held(self.people + company, company)

    def must_be_ruled(self, person, companies, company):
        if self.votes(company) == 0:
            return False
        held = self.held(person, company)
        held += sum(self.held(self.people + other, company) for other in companies if other != company)
        return held >= self.quorum * self.votes(company)

    def ruled(self, person):
        """What is in every set of companies that has all that must be ruled by way of it."""
        everywhere = set(range(self.companies))
        for number in range(1 << self.companies):
            companies = {company for company in range(self.companies) if number >> company & 1}
            if all(company in companies for company in range(self.companies)
                   if self.must_be_ruled(person, companies, company)):
                everywhere &= companies
        return sorted(everywhere)


class WhatHolds(unittest.TestCase):
    def test_on_many_made_up_companies(self):
        ruled_by_way = 0
        for seed in range(1500):
            made = Made(seed)
            ruled = [made.ruled(person) for person in range(made.people)]
            asked = [rules(person) for person in range(made.people)]
            expected = [[len(row), *row] for row in ruled]
            for company in range(made.companies):
                who = [person for person in range(made.people) if company in ruled[person]]
                self.assertLess(len(who), 2)
                ruled_by_way += sum(made.held(person, company) < made.quorum * made.votes(company) for person in who)
                left = made.votes(company)
                asked += [ruler(company), votes(company)]
                expected += [who or [-33], [0, left.numerator, left.denominator]]
            with self.subTest(seed=seed):
                self.assertEqual(told(*made.calls, *asked), made.expected + expected)
        self.assertGreater(ruled_by_way, 100)

    def test_all_parts_are_told_as_they_were_given(self):
        for seed in range(300):
            made = Made(seed)
            for holder in range(made.people + made.companies):
                asked = [part(holder, company) for company in range(made.companies)]
                held = [made.held(holder, company) for company in range(made.companies)]
                with self.subTest(seed=seed, holder=holder):
                    self.assertEqual(told(*made.calls, *asked)[len(made.calls):],
                                     [[0, share.numerator, share.denominator] for share in held])
