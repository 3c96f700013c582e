"""What there is once a line has begun: people, companies, who holds what, the quorum and the prices.

parts[holder][company] is what the holder has of the company. Holders are the people, then the companies.
"""

from whorules.ratio import ZERO, plus

FIRST_QUORUM = (3, 5)
FIRST_PRICE = 100


class Book:
    def __init__(self, people, companies):
        self.people = people
        self.companies = companies
        self.parts = [[ZERO] * companies for holder in range(people + companies)]
        self.quorum = FIRST_QUORUM
        self.prices = [FIRST_PRICE] * companies

    def has_person(self, person):
        return person < self.people

    def has_company(self, company):
        return company < self.companies

    def has_holder(self, holder):
        return holder < self.people + self.companies

    def company_as_holder(self, company):
        return self.people + company

    def part_of(self, holder, company):
        return self.parts[holder][company]

    def give_part(self, holder, company, share):
        self.parts[holder][company] = share

    def held_by(self, holders, company):
        total = ZERO
        for holder in holders:
            total = plus(total, self.part_of(holder, company))
        return total

    def held_by_others(self, holder, company):
        others = [other for other in range(self.people + self.companies) if other != holder]
        return self.held_by(others, company)
