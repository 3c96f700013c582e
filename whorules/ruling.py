"""The votes of companies, which companies people rule, which rule themselves, and what a person lacks.

people is a list of those who rule together, ruled a list of the companies that they are known to rule so far.
"""

from whorules.ratio import ONE, ZERO, at_least, minus, times


def votes_of(book, company):
    return minus(ONE, book.part_of(book.company_as_holder(company), company))


def has_votes(book, company):
    return votes_of(book, company) != ZERO


def needed_of(book, company):
    return times(book.quorum, votes_of(book, company))


def commanded(book, people, ruled, company):
    holders = list(people)
    for other in ruled:
        if other != company:
            holders.append(book.company_as_holder(other))
    return book.held_by(holders, company)


def is_ruled_by_way_of(book, people, ruled, company):
    # Of no votes the quorum's part is 0, which everybody has: it must not count as ruled.
    if not has_votes(book, company):
        return False
    return at_least(commanded(book, people, ruled, company), needed_of(book, company))


def newly_ruled(book, people, ruled):
    fresh = []
    for company in range(book.companies):
        if company not in ruled and is_ruled_by_way_of(book, people, ruled, company):
            fresh.append(company)
    return fresh


def ruled_from(book, people, ruled):
    fresh = newly_ruled(book, people, ruled)
    while len(fresh) > 0:
        ruled = ruled + fresh
        fresh = newly_ruled(book, people, ruled)
    return sorted(ruled)


def ruled_together(book, people):
    return ruled_from(book, people, [])


# One at most: the quorum is above one half.
def rulers_of(book, company):
    return [person for person in range(book.people) if company in ruled_together(book, [person])]


def ruled_by_each_other(book, companies):
    return [company for company in companies if is_ruled_by_way_of(book, [], companies, company)]


# Whoever fails among more companies fails among fewer too: so those that are left at last are the most there can be.
def self_ruled(book):
    kept = list(range(book.companies))
    still = ruled_by_each_other(book, kept)
    while len(still) < len(kept):
        kept = still
        still = ruled_by_each_other(book, kept)
    return kept


def free_companies(book):
    bound = self_ruled(book)
    for person in range(book.people):
        bound = bound + ruled_together(book, [person])
    return [company for company in range(book.companies) if company not in bound]


def lack_of(book, person, ruled, company):
    short = minus(needed_of(book, company), commanded(book, [person], ruled, company))
    if not at_least(short, ZERO):
        return ZERO
    return short
