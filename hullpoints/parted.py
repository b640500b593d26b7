"""Parting points so that the hulls of the parts have a place in common."""

from hullpoints.common import arounds_of, reach_of, share_a_place


def first_parting(points, parts):
    """The first row that gives each point the number of its part, or [] if there is none.

    A row is looked at only if each number first comes behind all lesser ones. By giving its parts other numbers,
    any row becomes such a one, which parts the points alike and is no later.
    """
    arounds = arounds_of(points)
    row = [0] * len(points)
    while row:
        if max(row) == parts - 1 and is_fit(row, parts, arounds):
            return row
        row = row_behind(row, parts)
    return []


def row_behind(row, parts):
    """The next row in which each number first comes behind all lesser ones, or [] behind the last."""
    for at in range(len(row) - 1, 0, -1):
        if row[at] < parts - 1 and row[at] <= max(row[:at]):
            return row[:at] + [row[at] + 1] + [0] * (len(row) - at - 1)
    return []


def is_fit(row, parts, arounds):
    return share_a_place([reach_of(chosen, arounds) for chosen in sets_of(row, parts)])


def sets_of(row, parts):
    """The set of the points with each number."""
    sets = [0] * parts
    for number, part in enumerate(row):
        sets[part] |= 1 << number
    return sets
