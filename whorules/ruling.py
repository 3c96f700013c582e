"""The votes of companies, and which companies people rule.

people is a list of those who rule together, ruled a list of the companies that they are known to rule so far.
"""

from whorules.ratio import ONE, ZERO, at_least, minus, times


def votes_of(book, company):
    return minus(ONE, book.part_of(book.company_as_holder(company), company))


def commanded(book, people, ruled, company):
    holders = list(people)
    for other in ruled:
        if other != company:
            holders.append(book.company_as_holder(other))
    return book.held_by(holders, company)


def is_ruled_by_way_of(book, people, ruled, company):
    votes = votes_of(book, company)
    # Of no votes the quorum's part is 0, which everybody has: it must not count as ruled.
    if votes == ZERO:
        return False
    return at_least(commanded(book, people, ruled, company), times(book.quorum, votes))


def newly_ruled(book, people, ruled):
    fresh = []
    for company in range(book.companies):
        if company not in ruled and is_ruled_by_way_of(book, people, ruled, company):
            fresh.append(company)
    return fresh


def ruled_together(book, people):
    ruled = []
    fresh = newly_ruled(book, people, ruled)
    while len(fresh) > 0:
        ruled = ruled + fresh
        fresh = newly_ruled(book, people, ruled)
    return sorted(ruled)


# One at most: the quorum is above one half.
def rulers_of(book, company):
    return [person for person in range(book.people) if company in ruled_together(book, [person])]
