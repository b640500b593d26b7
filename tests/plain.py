"""A second, plain reckoning straight from the document's words, with fractions.

That a place is in a hull is shown by weights, that it isn't by a line with all points strictly on one side;
one of the two must be found, so neither is taken on trust.
"""

from fractions import Fraction
from itertools import combinations


def members(chosen):
    return [number for number in range(32) if chosen >> number & 1]


def weights_of_two(p, q, place):
    if p == q:
        return (Fraction(1), Fraction(0)) if p == place else None
    axis = 0 if p[0] != q[0] else 1
    share = (place[axis] - p[axis]) / Fraction(q[axis] - p[axis])
    return (1 - share, share)


def weights_of_three(p, q, r, place):
    """The weights by Cramer's rule, or None where the three lie on one straight line."""
    whole = (q[0] - p[0]) * (r[1] - p[1]) - (q[1] - p[1]) * (r[0] - p[0])
    if whole == 0:
        return None
    second = (place[0] - p[0]) * (r[1] - p[1]) - (place[1] - p[1]) * (r[0] - p[0])
    third = (q[0] - p[0]) * (place[1] - p[1]) - (q[1] - p[1]) * (place[0] - p[0])
    return (1 - Fraction(second + third) / whole, Fraction(second) / whole, Fraction(third) / whole)


def fit(weights, some, place):
    if weights is None or min(weights) < 0 or sum(weights) != 1:
        return False
    return all(sum(w * p[axis] for w, p in zip(weights, some)) == place[axis] for axis in (0, 1))


def is_put_by_weights(some, place):
    """Whether weights of these points, at most three, put the weighted sum at the place."""
    if len(some) == 1:
        return fit((1,), some, place)
    if len(some) == 2:
        return fit(weights_of_two(some[0], some[1], place), some, place)
    if fit(weights_of_three(some[0], some[1], some[2], place), some, place):
        return True
    return any(is_put_by_weights(list(two), place) for two in combinations(some, 2))


def place_of(x, y, d):
    return (Fraction(x, d), Fraction(y, d))


def sets_around(points, chosen, place):
    found = []
    for size in (1, 2, 3):
        for some in combinations(members(chosen), size):
            if is_put_by_weights([points[number] for number in some], place):
                found.append(sum(2 ** number for number in some))
    return found


def is_parted_by_a_line(some, place):
    """Whether a line through the place has all of these strictly on one side."""
    ways = [(p[0] - place[0], p[1] - place[1]) for p in some]
    edges = [(-b, a) for a, b in ways] + [(b, -a) for a, b in ways]
    sides = ways + [(a[0] + b[0], a[1] + b[1]) for a in edges for b in edges]
    return any(all(u * a + v * b > 0 for a, b in ways) for u, v in sides)


def within(points, chosen, x, y, d):
    place = place_of(x, y, d)
    there = bool(sets_around(points, chosen, place))
    parted = is_parted_by_a_line([points[number] for number in members(chosen)], place)
    if there == parted:
        raise AssertionError(f"shown both ways or neither: {points} {chosen} {x} {y} {d}")
    return [1 if there else 0]


def three(points, chosen, x, y, d):
    found = sets_around(points, chosen, place_of(x, y, d))
    return [1, min(found)] if found else [0]


def lines_through(ways):
    """A line along each way, one square to it, and one between the lines of each two."""
    lines = [(1, 0)]
    for a, b in ways:
        lines.extend([(a, b), (-b, a)])
    for (a, b), (e, f) in combinations(ways, 2):
        lines.extend([(a + e, b + f), (a - e, b - f)])
    return [line for line in lines if line != (0, 0)]


def depth(points, x, y, d):
    place = place_of(x, y, d)
    ways = [(p[0] - place[0], p[1] - place[1]) for p in points]
    counts = []
    for u, v in lines_through(ways):
        turns = [u * b - v * a for a, b in ways]
        counts.append(sum(1 for turn in turns if turn >= 0))
        counts.append(sum(1 for turn in turns if turn <= 0))
    return [min(counts)]
