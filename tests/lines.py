"""Writes calls as lists of whole numbers, and splits what the desk gives back, call by call."""

from whorules.desk import answers

NO_SUCH = [-2]
NOT_BEGUN = [-11]
NOT_RIGHT = [-22]
NONE_OR_TOO_MUCH = [-33]
BIGGEST = 4294967295
MOST_CALLS = 40


def begin(m, n):
    return [0, m, n]


def hold(h, j, a, b):
    return [1, h, j, a, b]


def part(h, j):
    return [2, h, j]


def quorum(a, b):
    return [3, a, b]


def prices(*row):
    return [4, len(row), *row]


def votes(j):
    return [5, j]


def rules(p):
    return [6, p]


def ruler(j):
    return [7, j]


def selfruled():
    return [8]


def free():
    return [9]


def together(s):
    return [10, s]


def least(j):
    return [11, j]


def weight(p, j):
    return [12, p, j]


def cheapest(p, j):
    return [13, p, j]


def lacking(p, j):
    return [14, p, j]


def state():
    return [15]


def split(told):
    """The answers, a list for each call; fails where a count doesn't fit what follows it."""
    rows = []
    place = 0
    while place < len(told):
        end = place + 1 + told[place]
        if told[place] < 1 or end > len(told):
            raise AssertionError(f"a count that does not fit, at {place} of {told}")
        rows.append(told[place + 1:end])
        place = end
    return rows


def told(*calls):
    """The answers to these calls as one line, a list for each call."""
    if len(calls) > MOST_CALLS:
        raise AssertionError(f"a line has at most {MOST_CALLS} calls, not {len(calls)}")
    rows = split(answers([number for call in calls for number in call]))
    if len(rows) != len(calls):
        raise AssertionError(f"{len(calls)} calls, {len(rows)} answers")
    return rows


def last(*calls):
    """The answer to the last of these calls."""
    return told(*calls)[-1]


def replies(calls, questions):
    """The answers to the questions, each asked behind all of these calls, on as many lines as it needs."""
    room = MOST_CALLS - len(calls)
    rows = []
    for start in range(0, len(questions), room):
        rows += told(*calls, *questions[start:start + room])[len(calls):]
    return rows
