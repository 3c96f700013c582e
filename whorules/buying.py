"""How a person comes to rule a company as cheaply as can be.

All ways of one length are gone through at once, the shorter ones first, and those of one length in the order of their
companies' numbers: so of like ones the first that is found is the one to answer.
A way has bought, in order, pairs of a company and the part that's bought of it; what that costs; what is ruled then.
"""

from whorules.ratio import ZERO, at_least, plus, times
from whorules.ruling import has_votes, lack_of, ruled_from, ruled_together


class Way:
    def __init__(self, bought, cost, ruled):
        self.bought = bought
        self.cost = cost
        self.ruled = ruled


def way_with(book, person, way, company):
    share = lack_of(book, person, way.ruled, company)
    cost = plus(way.cost, times((book.prices[company], 1), share))
    # What's bought needn't be given to the person: it matters to that company alone, which counts as ruled.
    ruled = ruled_from(book, [person], way.ruled + [company])
    return Way(way.bought + [(company, share)], cost, ruled)


def ways_onward(book, person, ways):
    onward = []
    for way in ways:
        for company in range(book.companies):
            if company not in way.ruled and has_votes(book, company):
                onward.append(way_with(book, person, way, company))
    return onward


def is_cheaper(way, best):
    return best is None or not at_least(way.cost, best.cost)


def cheapest_that_rules(best, ways, company):
    for way in ways:
        if company in way.ruled and is_cheaper(way, best):
            best = way
    return best


# A longer way costs no less than its beginning: from one that isn't cheaper than the best nothing is gained.
def worth_going_on(ways, best, company):
    return [way for way in ways if company not in way.ruled and is_cheaper(way, best)]


def cheapest_way(book, person, company):
    best = None
    ways = [Way([], ZERO, ruled_together(book, [person]))]
    while len(ways) > 0:
        best = cheapest_that_rules(best, ways, company)
        ways = ways_onward(book, person, worth_going_on(ways, best, company))
    return best
