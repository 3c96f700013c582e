"""Point 3, each sentence of it, on many drawn companies, against a plain count of all possibilities.

Sets of people and of companies are numbers here: bit k stands for person k, or company k.
"""

import math
import random
import unittest
from fractions import Fraction

from tests.lines import (
    begin, cheapest, free, hold, lacking, least, part, prices, quorum, replies, ruler, rules, selfruled, state, told,
    together, votes, weight)

FINE = (1, 2, 3, 4, 5, 6, 7, 10, 20, 97, 100)
COARSE = (5, 10)
QUORUMS = (Fraction(3, 5), Fraction(51, 100), Fraction(2, 3), Fraction(1))


def listed(number):
    return [place for place in range(number.bit_length()) if number >> place & 1]


def pair(fraction):
    return [fraction.numerator, fraction.denominator]


def counted(companies):
    return [len(companies), *companies]


def as_set(answer):
    """The companies of an answer that tells how many, then these, as a number."""
    if answer[0] != len(answer) - 1:
        raise AssertionError(f"a count that does not fit: {answer}")
    return sum(1 << company for company in answer[1:])


class Plain:
    """Counts all possibilities; parts and needs are whole numbers of some unit, a need of 0 is that of no votes."""

    def __init__(self, people, companies, parts, needs):
        self.people = people
        self.companies = companies
        self.parts = parts
        self.needs = needs
        self.closed_sets = {}

    def held(self, group, ruled, company):
        theirs = sum(self.parts[person][company] for person in listed(group))
        return theirs + sum(self.parts[self.people + other][company] for other in listed(ruled) if other != company)

    def must_be_ruled(self, group, ruled):
        """The companies that must be ruled if these are."""
        return sum(1 << company for company in range(self.companies)
                   if self.needs[company] > 0 and self.held(group, ruled, company) >= self.needs[company])

    def closed(self, group):
        """The sets of companies that have all that must be ruled by way of them."""
        if group not in self.closed_sets:
            self.closed_sets[group] = [ruled for ruled in range(1 << self.companies)
                                       if self.must_be_ruled(group, ruled) & ~ruled == 0]
        return self.closed_sets[group]

    def ruled(self, group, bought=0):
        """What is in every closed set that has what's bought."""
        everywhere = (1 << self.companies) - 1
        for companies in self.closed(group):
            if companies & bought == bought:
                everywhere &= companies
        return everywhere

    def rulers(self, company):
        return [person for person in range(self.people) if self.ruled(1 << person) >> company & 1]

    def self_ruled(self):
        fit = [companies for companies in range(1 << self.companies)
               if companies & ~self.must_be_ruled(0, companies) == 0]
        most = max(len(listed(companies)) for companies in fit)
        return [companies for companies in fit if len(listed(companies)) == most]

    def free(self):
        bound = self.self_ruled()[0]
        return [company for company in range(self.companies) if not self.rulers(company) and not bound >> company & 1]

    def ruling(self, company):
        return [group for group in range(1 << self.people) if self.ruled(group) >> company & 1]

    def least(self, company):
        ruling = self.ruling(company)
        return [group for group in ruling if not any(less != group and less & group == less for less in ruling)]

    def weight(self, person, company):
        ruling = self.ruling(company)
        return sum(group not in ruling and group | 1 << person in ruling
                   for group in range(1 << self.people) if not group >> person & 1)

    def lack(self, person, ruled, company):
        return max(0, self.needs[company] - self.held(1 << person, ruled, company))

    def ways(self, person, company, row, bought=(), cost=0):
        """All ways to come to rule the company: what each costs, of how many it buys, of which, in order."""
        ruled = self.ruled(1 << person, sum(1 << other for other in bought))
        if ruled >> company & 1:
            return [(cost, len(bought), bought)]
        found = []
        for other in range(self.companies):
            if self.needs[other] > 0 and not ruled >> other & 1:
                more = cost + row[other] * self.lack(person, ruled, other)
                found += self.ways(person, company, row, (*bought, other), more)
        return found

    def parts_bought(self, person, bought):
        shares = []
        for place, company in enumerate(bought):
            ruled = self.ruled(1 << person, sum(1 << other for other in bought[:place]))
            shares.append(self.lack(person, ruled, company))
        return shares

    def with_more(self, person, more):
        parts = [list(row) for row in self.parts]
        parts[person] = [share + extra for share, extra in zip(parts[person], more, strict=True)]
        return Plain(self.people, self.companies, parts, self.needs)


class Drawn:
    """Drawn people, companies, quorum, prices and holds, written as calls, with what these must answer.

    The coarse ones have parts and prices of few sorts: so there are many rings, ways that cost alike, and parts that
    are just as much as the quorum.
    """

    def __init__(self, seed):
        pick = random.Random(seed)
        self.pick = pick
        self.coarse = seed % 2 == 0
        self.people = pick.randint(1, 4)
        self.companies = pick.randint(1, 5)
        self.quorum = Fraction(3, 5) if self.coarse else pick.choice(QUORUMS)
        sorts = (0, 10, 20) if self.coarse else (0, 1, 7, 100, 999, 1000)
        self.prices = [pick.choice(sorts) for company in range(self.companies)]
        self.parts = {}
        self.calls = [begin(self.people, self.companies), quorum(*pair(self.quorum)), prices(*self.prices)]
        self.expected = [[0], [0], [0]]
        ring = self.draw_ring() if pick.random() < 0.25 else []
        for company in range(self.companies):
            if company not in ring:
                self.draw_holders(company)
        for step in range(3):
            self.draw_hold()
        self.unit = 1
        self.plain = self.counted_plainly()

    def held(self, holder, company):
        return self.parts.get((holder, company), Fraction(0))

    def strewn(self, company):
        return 1 - sum(self.held(holder, company) for holder in range(self.people + self.companies))

    def draw_ring(self):
        ring = self.pick.sample(range(self.companies), self.pick.randint(1, self.companies))
        for holder, company in zip(ring, ring[1:] + ring[:1], strict=True):
            self.write_hold(self.people + holder, company, *pair(self.quorum))
        return ring

    def draw_holders(self, company):
        """Splits a company among a few holders, of people, of companies, or of both; evenly or by chance."""
        everybody = range(self.people + self.companies)
        some = self.pick.choice((everybody, everybody[:self.people], everybody[self.people:]))
        holders = self.pick.sample(some, min(len(some), self.pick.randint(0, 4)))
        lower = self.pick.choice(COARSE if self.coarse else FINE)
        evenly = self.pick.random() < 0.4
        left = lower
        for holder in holders:
            upper = lower // len(holders) if evenly else self.pick.randint(0, left)
            self.write_hold(holder, company, upper, lower)
            left -= upper

    def draw_hold(self):
        """Any part, often more than is left."""
        holder = self.pick.randrange(self.people + self.companies)
        lower = self.pick.choice(COARSE if self.coarse else FINE)
        self.write_hold(holder, self.pick.randrange(self.companies), self.pick.randint(0, lower), lower)

    def write_hold(self, holder, company, upper, lower):
        self.calls.append(hold(holder, company, upper, lower))
        before = self.held(holder, company)
        if Fraction(upper, lower) > self.strewn(company) + before:
            self.expected.append([-33])
            return
        self.expected.append([0, *pair(before)])
        self.parts[(holder, company)] = Fraction(upper, lower)

    def votes(self, company):
        return 1 - self.held(self.people + company, company)

    def counted_plainly(self):
        needs = [self.quorum * self.votes(company) for company in range(self.companies)]
        self.unit = math.lcm(*[fraction.denominator for fraction in [*needs, *self.parts.values()]])
        parts = [[int(self.held(holder, company) * self.unit) for company in range(self.companies)]
                 for holder in range(self.people + self.companies)]
        return Plain(self.people, self.companies, parts, [int(need * self.unit) for need in needs])

    def asked(self, questions):
        """The answers to the questions, behind the calls."""
        return replies(self.calls, questions)

    def everybody(self):
        return [(person, company) for person in range(self.people) for company in range(self.companies)]

    def told_parts(self):
        holders = range(self.people + self.companies)
        return [part(holder, company) for holder in holders for company in range(self.companies)]

    def told_together(self):
        """What each set of people rules together, by the program."""
        return [as_set(row) for row in self.asked([together(group) for group in range(1 << self.people)])]

    def told_way(self, person, company):
        """The cheapest way by the program: the cost, the companies, and their parts; None if there is none."""
        row = self.asked([cheapest(person, company)])[0]
        if row == [-33]:
            return None
        if len(row) != 3 + 3 * row[0]:
            raise AssertionError(f"a count that does not fit: {row}")
        shares = [Fraction(upper, lower) for upper, lower in zip(row[4::3], row[5::3], strict=True)]
        return Fraction(row[1], row[2]), tuple(row[3::3]), shares

    def refused(self):
        """Calls that are refused, a few of each sort."""
        m = self.people
        n = self.companies
        row = [5] * n
        some = [begin(0, n), begin(5, n), begin(m, 0), begin(m, 6), hold(m + n, 0, 1, 100), hold(0, n, 1, 100),
                hold(0, 0, 1, 0), hold(0, 0, 1, 101), hold(0, 0, 2, 1), part(m + n, 0), part(0, n), quorum(1, 2),
                quorum(1, 0), quorum(2, 1), quorum(100, 101), prices(*row, 5), prices(*row[1:]), prices(*row[1:], 1001),
                votes(n), rules(m), ruler(n), together(1 << m), least(n), weight(m, 0), weight(0, n), cheapest(m, 0),
                cheapest(0, n), lacking(m, 0), lacking(0, n)]
        for company in range(n):
            for holder in range(m + n):
                if self.strewn(company) + self.held(holder, company) < 1:
                    some.append(hold(holder, company, 1, 1))
            if self.votes(company) == 0:
                some.append(cheapest(0, company))
        return self.pick.sample(some, 10)


class AgainstThePlainCount(unittest.TestCase):
    def test_the_calls_and_the_state(self):
        for seed in range(600):
            drawn = Drawn(seed)
            with self.subTest(seed=seed):
                self.assertEqual(told(*drawn.calls), drawn.expected)
                self.assertEqual(drawn.asked([state()]),
                                 [[drawn.people, drawn.companies, *pair(drawn.quorum), *drawn.prices]])

    def test_all_parts_are_told_as_they_were_given(self):
        for seed in range(300):
            drawn = Drawn(seed)
            held = [drawn.held(holder, company) for holder in range(drawn.people + drawn.companies)
                    for company in range(drawn.companies)]
            with self.subTest(seed=seed):
                self.assertEqual(drawn.asked(drawn.told_parts()), [[0, *pair(share)] for share in held])

    def test_votes_rules_ruler(self):
        by_way = 0
        for seed in range(600):
            drawn = Drawn(seed)
            plain = drawn.plain
            questions = [rules(person) for person in range(drawn.people)]
            expected = [counted(listed(plain.ruled(1 << person))) for person in range(drawn.people)]
            for company in range(drawn.companies):
                who = plain.rulers(company)
                self.assertLess(len(who), 2)
                by_way += sum(plain.parts[person][company] < plain.needs[company] for person in who)
                questions += [ruler(company), votes(company)]
                expected += [who or [-33], [0, *pair(drawn.votes(company))]]
            with self.subTest(seed=seed):
                self.assertEqual(drawn.asked(questions), expected)
        self.assertGreater(by_way, 40)

    def test_selfruled_and_free(self):
        rings = 0
        for seed in range(1000):
            drawn = Drawn(seed)
            most = drawn.plain.self_ruled()
            self.assertEqual(len(most), 1)
            rings += most[0] > 0
            with self.subTest(seed=seed):
                self.assertEqual(drawn.asked([selfruled(), free()]),
                                 [counted(listed(most[0])), counted(drawn.plain.free())])
        self.assertGreater(rings, 80)

    def test_least_and_weight(self):
        several = 0
        for seed in range(600):
            drawn = Drawn(seed)
            plain = drawn.plain
            questions = [least(company) for company in range(drawn.companies)]
            expected = [counted(plain.least(company)) for company in range(drawn.companies)]
            several += sum(row[0] > 1 for row in expected)
            questions += [weight(person, company) for person, company in drawn.everybody()]
            expected += [[plain.weight(person, company)] for person, company in drawn.everybody()]
            with self.subTest(seed=seed):
                self.assertEqual(drawn.asked(questions), expected)
        self.assertGreater(several, 25)

    def test_lacking(self):
        for seed in range(600):
            drawn = Drawn(seed)
            plain = drawn.plain
            questions = [lacking(person, company) for person, company in drawn.everybody()]
            lacks = [plain.lack(person, plain.ruled(1 << person), company) for person, company in drawn.everybody()]
            with self.subTest(seed=seed):
                self.assertEqual(drawn.asked(questions), [[0, *pair(Fraction(lack, drawn.unit))] for lack in lacks])

    def test_cheapest(self):
        longer = 0
        alike = 0
        alike_of_one_length = 0
        for seed in range(500):
            drawn = Drawn(seed)
            questions = [cheapest(person, company) for person, company in drawn.everybody()]
            for (person, company), row in zip(drawn.everybody(), drawn.asked(questions), strict=True):
                ways = sorted(drawn.plain.ways(person, company, drawn.prices))
                with self.subTest(seed=seed, person=person, company=company):
                    self.assertEqual(row, self.told_plainly(drawn, person, ways))
                longer += len(ways) > 0 and ways[0][1] > 1
                alike += len(ways) > 1 and ways[0][0] == ways[1][0]
                alike_of_one_length += len(ways) > 1 and ways[0][:2] == ways[1][:2]
        self.assertGreater(longer, 150)
        self.assertGreater(alike, 500)
        self.assertGreater(alike_of_one_length, 100)

    def told_plainly(self, drawn, person, ways):
        if not ways:
            return [-33]
        cost, length, bought = ways[0]
        answer = [length, *pair(Fraction(cost, drawn.unit))]
        for company, share in zip(bought, drawn.plain.parts_bought(person, bought), strict=True):
            answer += [company, *pair(Fraction(share, drawn.unit))]
        return answer


class WhatHolds(unittest.TestCase):
    def test_nobody_is_ruled_by_two(self):
        for seed in range(600):
            drawn = Drawn(seed)
            ruled = [as_set(row) for row in drawn.asked([rules(person) for person in range(drawn.people)])]
            who = drawn.asked([ruler(company) for company in range(drawn.companies)])
            for company in range(drawn.companies):
                rulers = [person for person in range(drawn.people) if ruled[person] >> company & 1]
                with self.subTest(seed=seed, company=company):
                    self.assertLess(len(rulers), 2)
                    self.assertEqual(who[company], rulers or [-33])

    def test_nor_by_two_sets_of_people_that_have_nobody_in_common(self):
        for seed in range(600):
            ruled = Drawn(seed).told_together()
            for first in range(len(ruled)):
                for second in range(len(ruled)):
                    if first & second == 0:
                        self.assertEqual(ruled[first] & ruled[second], 0, (seed, first, second))

    def test_who_is_self_ruled_is_ruled_by_nobody(self):
        rings = 0
        for seed in range(1000):
            drawn = Drawn(seed)
            ring = as_set(drawn.asked([selfruled()])[0])
            rings += ring > 0
            for group, ruled in enumerate(drawn.told_together()):
                self.assertEqual(ring & ruled, 0, (seed, group))
        self.assertGreater(rings, 80)

    def test_ruled_are_just_those_that_must_be(self):
        for seed in range(600):
            drawn = Drawn(seed)
            for group, ruled in enumerate(drawn.told_together()):
                self.assertEqual(ruled, drawn.plain.ruled(group), (seed, group))

    def test_more_people_rule_no_less(self):
        for seed in range(600):
            ruled = Drawn(seed).told_together()
            for less in range(len(ruled)):
                for more in range(len(ruled)):
                    if less & more == less:
                        self.assertEqual(ruled[less] & ~ruled[more], 0, (seed, less, more))

    def test_the_cheapest_way_does_it(self):
        for seed in range(300):
            drawn = Drawn(seed)
            for person, company in drawn.everybody():
                way = drawn.told_way(person, company)
                if way is None:
                    self.assertEqual(drawn.votes(company), 0)
                    continue
                more = [0] * drawn.companies
                for bought, share in zip(way[1], way[2], strict=True):
                    more[bought] = share * drawn.unit
                after = drawn.plain.with_more(person, more)
                self.assertTrue(after.ruled(1 << person) >> company & 1, (seed, person, company))

    def test_the_cheapest_way_does_it_where_it_is_really_bought(self):
        really = 0
        for seed in range(0, 1200, 2):
            drawn = Drawn(seed)
            person = seed // 2 % drawn.people
            for company in range(drawn.companies):
                way = drawn.told_way(person, company)
                if way is None or any(share > drawn.strewn(bought) for bought, share in zip(*way[1:], strict=True)):
                    continue
                buys = [hold(person, bought, *pair(drawn.held(person, bought) + share))
                        for bought, share in zip(*way[1:], strict=True)]
                rows = told(*drawn.calls, *buys, rules(person), cheapest(person, company))
                with self.subTest(seed=seed, company=company):
                    self.assertTrue(all(row[0] == 0 for row in rows[len(drawn.calls):-2]))
                    self.assertIn(company, rows[-2][1:])
                    self.assertEqual(rows[-1], [0, 0, 1])
                really += len(buys) > 0
        self.assertGreater(really, 300)

    def test_the_cheapest_way_costs_what_it_buys(self):
        for seed in range(300):
            drawn = Drawn(seed)
            for person, company in drawn.everybody():
                way = drawn.told_way(person, company)
                if way is not None:
                    self.assertEqual(way[0], sum(drawn.prices[bought] * share
                                                 for bought, share in zip(*way[1:], strict=True)))

    def test_nobody_who_buys_a_hair_less_comes_to_rule(self):
        # Of what costs nothing more than enough may be bought: the order goes by the lesser number then.
        for seed in range(300):
            drawn = Drawn(seed)
            for person, company in drawn.everybody():
                way = drawn.told_way(person, company)
                if way is None:
                    continue
                for short in way[1]:
                    if drawn.prices[short] == 0:
                        continue
                    more = [0] * drawn.companies
                    for bought, share in zip(way[1], way[2], strict=True):
                        more[bought] = share * drawn.unit - (Fraction(1, 1000) if bought == short else 0)
                    after = drawn.plain.with_more(person, more)
                    self.assertFalse(after.ruled(1 << person) >> company & 1, (seed, person, company, short))

    def test_nobody_who_buys_whatever_parts_pays_less(self):
        came_to_rule = 0
        for seed in range(400):
            drawn = Drawn(seed)
            person = seed % drawn.people
            ways = [drawn.told_way(person, company) for company in range(drawn.companies)]
            for step in range(6):
                more = [drawn.pick.choice((0, 0, drawn.plain.needs[company], drawn.pick.randint(0, drawn.unit)))
                        for company in range(drawn.companies)]
                cost = sum(Fraction(price * share, drawn.unit)
                           for price, share in zip(drawn.prices, more, strict=True))
                for company in listed(drawn.plain.with_more(person, more).ruled(1 << person)):
                    came_to_rule += 1
                    self.assertLessEqual(ways[company][0], cost, (seed, company, more))
        self.assertGreater(came_to_rule, 1000)

    def test_what_is_refused_changes_nothing(self):
        for seed in range(300):
            drawn = Drawn(seed)
            refused = drawn.refused()
            self.assertTrue(all(row[0] < 0 and len(row) == 1 for row in drawn.asked(refused)), seed)
            questions = [state(), selfruled(), free(), *drawn.told_parts()]
            questions += [cheapest(person, company) for person, company in drawn.everybody()]
            with self.subTest(seed=seed):
                self.assertEqual(replies([*drawn.calls, *refused], questions), drawn.asked(questions))
