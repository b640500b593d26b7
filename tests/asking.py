"""Calls written by name, asked, and their answers split call by call."""

from hullpoints.heap import answers

MOST_CALLS = 30


def points(*places):
    return coordinates([number for place in places for number in place])


def coordinates(numbers):
    return [0, len(numbers)] + list(numbers)


def within(chosen, x, y, d=1):
    return [1, chosen, x, y, d]


def three(chosen, x, y, d=1):
    return [2, chosen, x, y, d]


def depth(x, y, d=1):
    return [3, x, y, d]


def deepest():
    return [4]


def parted(r):
    return [5, r]


def meet(*sets):
    return [6, len(sets)] + list(sets)


def halves(s, t, u, v, c):
    return [7, s, t, u, v, c]


def split(given):
    """The answers, one list for each call; fails if the counts don't fit the list."""
    rows = []
    at = 0
    while at < len(given):
        size = given[at]
        row = given[at + 1:at + 1 + size]
        if size < 1 or len(row) != size:
            raise AssertionError(f"a count that doesn't fit, at {at} in {given}")
        rows.append(row)
        at += 1 + size
    return rows


def ask(*calls):
    """The answers of these calls on one new heap."""
    if not 1 <= len(calls) <= MOST_CALLS:
        raise AssertionError("a list has 1 to 30 calls")
    return split(answers([number for call in calls for number in call]))


def ask_of(places, questions):
    """The answers of questions about these points, however many, in lists of at most 30 calls."""
    rows = []
    step = MOST_CALLS - 1
    for start in range(0, len(questions), step):
        part = ask(points(*places), *questions[start:start + step])
        if part[0] != [len(places)]:
            raise AssertionError("the points were not taken")
        rows.extend(part[1:])
    return rows
