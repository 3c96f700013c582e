"""Fractions: each a pair of the upper and the lower number, with nothing in common, the lower one 1 or more.

lowest makes such a pair of any two numbers, the second of which is 1 or more.
"""

ZERO = (0, 1)
ONE = (1, 1)


def greatest_common(first, second):
    while second != 0:
        rest = first % second
        first = second
        second = rest
    return first


def lowest(upper, lower):
    common = greatest_common(upper, lower)
    return (upper // common, lower // common)


def plus(first, second):
    return lowest(first[0] * second[1] + second[0] * first[1], first[1] * second[1])


def minus(first, second):
    return lowest(first[0] * second[1] - second[0] * first[1], first[1] * second[1])


def times(first, second):
    return lowest(first[0] * second[0], first[1] * second[1])


def at_least(first, second):
    return first[0] * second[1] >= second[0] * first[1]
