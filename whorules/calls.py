"""The calls that need a begin ahead of them: each takes the book and the call's numbers, and answers a list.

A refusal is answered before anything is changed.
"""

from whorules.ratio import ONE, at_least, lowest, plus
from whorules.refusals import NONE_OR_TOO_MUCH, NOT_RIGHT, NO_SUCH
from whorules.ruling import ruled_together, rulers_of, votes_of

MOST_LOWER = 100
MOST_PRICE = 1000


class NotBuilt(Exception):
    pass


def with_fraction(fraction):
    return [0, fraction[0], fraction[1]]


def with_count(companies):
    return [len(companies)] + companies


def is_share(upper, lower):
    return 1 <= lower <= MOST_LOWER and upper <= lower


def hold(book, given):
    holder = given[0]
    company = given[1]
    if not book.has_holder(holder) or not book.has_company(company):
        return [NO_SUCH]
    if not is_share(given[2], given[3]):
        return [NOT_RIGHT]
    share = lowest(given[2], given[3])
    if not at_least(ONE, plus(book.held_by_others(holder, company), share)):
        return [NONE_OR_TOO_MUCH]
    before = book.part_of(holder, company)
    book.give_part(holder, company, share)
    return with_fraction(before)


def part(book, given):
    holder = given[0]
    company = given[1]
    if not book.has_holder(holder) or not book.has_company(company):
        return [NO_SUCH]
    return with_fraction(book.part_of(holder, company))


def quorum(book, given):
    upper = given[0]
    lower = given[1]
    if not is_share(upper, lower) or 2 * upper <= lower:
        return [NOT_RIGHT]
    book.quorum = lowest(upper, lower)
    return [0]


def prices(book, given):
    if len(given) != book.companies or max(given) > MOST_PRICE:
        return [NOT_RIGHT]
    book.prices = list(given)
    return [0]


def votes(book, given):
    company = given[0]
    if not book.has_company(company):
        return [NO_SUCH]
    return with_fraction(votes_of(book, company))


def rules(book, given):
    person = given[0]
    if not book.has_person(person):
        return [NO_SUCH]
    return with_count(ruled_together(book, [person]))


def ruler(book, given):
    company = given[0]
    if not book.has_company(company):
        return [NO_SUCH]
    rulers = rulers_of(book, company)
    if len(rulers) == 0:
        return [NONE_OR_TOO_MUCH]
    return [rulers[0]]


CALLS = {1: hold, 2: part, 3: quorum, 4: prices, 5: votes, 6: rules, 7: ruler}


def answer_call(book, number, given):
    if number not in CALLS:
        raise NotBuilt(f"call {number} is not built yet")
    call = CALLS[number]
    return call(book, given)
