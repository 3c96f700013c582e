"""The calls that need a begin ahead of them: each takes the book and the call's numbers, and answers a list.

A refusal is answered before anything is changed.
"""

from whorules.buying import cheapest_way
from whorules.groups import group_count, least_groups, ruled_by_group, weight_of
from whorules.ratio import ONE, at_least, lowest, plus
from whorules.refusals import NONE_OR_TOO_MUCH, NOT_RIGHT, NO_SUCH
from whorules.ruling import free_companies, lack_of, ruled_together, rulers_of, self_ruled, votes_of

MOST_LOWER = 100
MOST_PRICE = 1000


def with_fraction(fraction):
    return [0, fraction[0], fraction[1]]


def with_count(numbers):
    return [len(numbers)] + numbers


def is_share(upper, lower):
    return 1 <= lower <= MOST_LOWER and upper <= lower


def hold(book, given):
    holder = given[0]
    company = given[1]
    if not book.has_holder(holder) or not book.has_company(company):
        return [NO_SUCH]
    if not is_share(given[2], given[3]):
        return [NOT_RIGHT]
    share = lowest(given[2], given[3])
    if not at_least(ONE, plus(book.held_by_others(holder, company), share)):
        return [NONE_OR_TOO_MUCH]
    before = book.part_of(holder, company)
    book.give_part(holder, company, share)
    return with_fraction(before)


def part(book, given):
    holder = given[0]
    company = given[1]
    if not book.has_holder(holder) or not book.has_company(company):
        return [NO_SUCH]
    return with_fraction(book.part_of(holder, company))


def quorum(book, given):
    upper = given[0]
    lower = given[1]
    if not is_share(upper, lower) or 2 * upper <= lower:
        return [NOT_RIGHT]
    book.quorum = lowest(upper, lower)
    return [0]


def prices(book, given):
    if len(given) != book.companies or max(given) > MOST_PRICE:
        return [NOT_RIGHT]
    book.prices = list(given)
    return [0]


def votes(book, given):
    company = given[0]
    if not book.has_company(company):
        return [NO_SUCH]
    return with_fraction(votes_of(book, company))


def rules(book, given):
    person = given[0]
    if not book.has_person(person):
        return [NO_SUCH]
    return with_count(ruled_together(book, [person]))


def ruler(book, given):
    company = given[0]
    if not book.has_company(company):
        return [NO_SUCH]
    rulers = rulers_of(book, company)
    if len(rulers) == 0:
        return [NONE_OR_TOO_MUCH]
    return [rulers[0]]


def selfruled(book, given):
    return with_count(self_ruled(book))


def free(book, given):
    return with_count(free_companies(book))


def together(book, given):
    group = given[0]
    if group >= group_count(book):
        return [NOT_RIGHT]
    return with_count(ruled_by_group(book, group))


def least(book, given):
    company = given[0]
    if not book.has_company(company):
        return [NO_SUCH]
    return with_count(least_groups(book, company))


def weight(book, given):
    person = given[0]
    company = given[1]
    if not book.has_person(person) or not book.has_company(company):
        return [NO_SUCH]
    return [weight_of(book, person, company)]


def cheapest(book, given):
    person = given[0]
    company = given[1]
    if not book.has_person(person) or not book.has_company(company):
        return [NO_SUCH]
    way = cheapest_way(book, person, company)
    if way is None:
        return [NONE_OR_TOO_MUCH]
    told = [len(way.bought), way.cost[0], way.cost[1]]
    for bought in way.bought:
        share = bought[1]
        told.extend([bought[0], share[0], share[1]])
    return told


def lacking(book, given):
    person = given[0]
    company = given[1]
    if not book.has_person(person) or not book.has_company(company):
        return [NO_SUCH]
    return with_fraction(lack_of(book, person, ruled_together(book, [person]), company))


def state(book, given):
    return [book.people, book.companies, book.quorum[0], book.quorum[1]] + book.prices


CALLS = {
    1: hold, 2: part, 3: quorum, 4: prices, 5: votes, 6: rules, 7: ruler, 8: selfruled,
    9: free, 10: together, 11: least, 12: weight, 13: cheapest, 14: lacking, 15: state,
}


def answer_call(book, number, given):
    call = CALLS[number]
    return call(book, given)
