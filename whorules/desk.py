"""The desk: takes a line of calls on one new object, written one behind another, and gives the answers back.

calls is the whole line, place where in it a call's number stands; given are the numbers handed to a call.
"""

from whorules.book import Book
from whorules.calls import answer_call
from whorules.refusals import NOT_BEGUN, NOT_RIGHT

MOST_PEOPLE = 4
MOST_COMPANIES = 5

BEGIN = 0
PRICES = 4
# How many whole numbers each call has, by its number; a line tells itself how many numbers prices has.
COUNTS = (2, 4, 2, 2, 0, 1, 1, 1, 0, 0, 1, 1, 2, 2, 2, 0)


class Desk:
    def __init__(self):
        self.book = None

    def begin(self, people, companies):
        if not 1 <= people <= MOST_PEOPLE or not 1 <= companies <= MOST_COMPANIES:
            return [NOT_RIGHT]
        self.book = Book(people, companies)
        return [0]

    def answer(self, number, given):
        if number == BEGIN:
            return self.begin(given[0], given[1])
        if self.book is None:
            return [NOT_BEGUN]
        return answer_call(self.book, number, given)


def start_of_given(calls, place):
    if calls[place] == PRICES:
        return place + 2
    return place + 1


def count_of_given(calls, place):
    if calls[place] == PRICES:
        return calls[place + 1]
    return COUNTS[calls[place]]


def answers(calls):
    desk = Desk()
    told = []
    place = 0
    while place < len(calls):
        start = start_of_given(calls, place)
        end = start + count_of_given(calls, place)
        answer = desk.answer(calls[place], calls[start:end])
        told.append(len(answer))
        told.extend(answer)
        place = end
    return told
