"""Sets of people, each one number in which person p counts 2 to the power of p, and which of them rule a company."""

from whorules.ruling import ruled_together


def group_count(book):
    return 1 << book.people


def is_member(group, person):
    return (group >> person) % 2 == 1


def without(group, person):
    return group - (1 << person)


def members_of(book, group):
    return [person for person in range(book.people) if is_member(group, person)]


def ruled_by_group(book, group):
    return ruled_together(book, members_of(book, group))


def ruling_groups(book, company):
    return [group for group in range(group_count(book)) if company in ruled_by_group(book, group)]


def hangs_on(ruling, group, person):
    return is_member(group, person) and without(group, person) not in ruling


# More people rule no less: so it's enough to leave each one out alone.
def needs_all(book, ruling, group):
    return all([hangs_on(ruling, group, person) for person in members_of(book, group)])


def least_groups(book, company):
    ruling = ruling_groups(book, company)
    return [group for group in ruling if needs_all(book, ruling, group)]


def weight_of(book, person, company):
    ruling = ruling_groups(book, company)
    return len([group for group in ruling if hangs_on(ruling, group, person)])
