"""A second, plain reckoning straight from the document's words, with fractions.

That a place is in a hull is shown by weights, that it isn't by a line with all points strictly on one side;
one of the two must be found, so neither is taken on trust.

What hulls have in common is what is left of a great square when all that lies beyond one of them is cut off.
A corner that is left is shown to be in each hull by weights; that nothing is left shows that there is none.
"""

from fractions import Fraction
from itertools import combinations, combinations_with_replacement, permutations, product


def members(chosen):
    return [number for number in range(32) if chosen >> number & 1]


def weights_of_two(p, q, place):
    if p == q:
        return (Fraction(1), Fraction(0)) if p == place else None
    axis = 0 if p[0] != q[0] else 1
    share = (place[axis] - p[axis]) / Fraction(q[axis] - p[axis])
    return (1 - share, share)


def weights_of_three(p, q, r, place):
    """The weights by Cramer's rule, or None where the three lie on one straight line."""
    whole = (q[0] - p[0]) * (r[1] - p[1]) - (q[1] - p[1]) * (r[0] - p[0])
    if whole == 0:
        return None
    second = (place[0] - p[0]) * (r[1] - p[1]) - (place[1] - p[1]) * (r[0] - p[0])
    third = (q[0] - p[0]) * (place[1] - p[1]) - (q[1] - p[1]) * (place[0] - p[0])
    return (1 - Fraction(second + third) / whole, Fraction(second) / whole, Fraction(third) / whole)


def fit(weights, some, place):
    if weights is None or min(weights) < 0 or sum(weights) != 1:
        return False
    return all(sum(w * p[axis] for w, p in zip(weights, some)) == place[axis] for axis in (0, 1))


def is_put_by_weights(some, place):
    """Whether weights of these points, at most three, put the weighted sum at the place."""
    if len(some) == 1:
        return fit((1,), some, place)
    if len(some) == 2:
        return fit(weights_of_two(some[0], some[1], place), some, place)
    if fit(weights_of_three(some[0], some[1], some[2], place), some, place):
        return True
    return any(is_put_by_weights(list(two), place) for two in combinations(some, 2))


def place_of(x, y, d):
    return (Fraction(x, d), Fraction(y, d))


def sets_around(points, chosen, place):
    found = []
    for size in (1, 2, 3):
        for some in combinations(members(chosen), size):
            if is_put_by_weights([points[number] for number in some], place):
                found.append(sum(2 ** number for number in some))
    return found


def is_parted_by_a_line(some, place):
    """Whether a line through the place has all of these strictly on one side."""
    ways = [(p[0] - place[0], p[1] - place[1]) for p in some]
    edges = [(-b, a) for a, b in ways] + [(b, -a) for a, b in ways]
    sides = ways + [(a[0] + b[0], a[1] + b[1]) for a in edges for b in edges]
    return any(all(u * a + v * b > 0 for a, b in ways) for u, v in sides)


def within(points, chosen, x, y, d):
    place = place_of(x, y, d)
    there = bool(sets_around(points, chosen, place))
    parted = is_parted_by_a_line([points[number] for number in members(chosen)], place)
    if there == parted:
        raise AssertionError(f"shown both ways or neither: {points} {chosen} {x} {y} {d}")
    return [1 if there else 0]


def three(points, chosen, x, y, d):
    found = sets_around(points, chosen, place_of(x, y, d))
    return [1, min(found)] if found else [0]


def lines_through(ways):
    """A line along each way, one square to it, and one between the lines of each two."""
    lines = [(1, 0)]
    for a, b in ways:
        lines.extend([(a, b), (-b, a)])
    for (a, b), (e, f) in combinations(ways, 2):
        lines.extend([(a + e, b + f), (a - e, b - f)])
    return [line for line in lines if line != (0, 0)]


def depth(points, x, y, d):
    place = place_of(x, y, d)
    ways = [(p[0] - place[0], p[1] - place[1]) for p in points]
    counts = []
    for u, v in lines_through(ways):
        turns = [u * b - v * a for a, b in ways]
        counts.append(sum(1 for turn in turns if turn >= 0))
        counts.append(sum(1 for turn in turns if turn <= 0))
    return [min(counts)]


def sides_at(some):
    """Sides (u, v, c), where u*x + v*y is at most c, whose lines go along or square to two of these, or level or upright.

    A hull is what those of them that hold all its points have in common: of points all over, those along its rim;
    of points on one straight line, those along it and square to it at its ends; of a lone place, the level and
    upright ones.
    """
    places = sorted(set(some))
    found = set()
    for x, y in places:
        found.update([(1, 0, x), (-1, 0, -x), (0, 1, y), (0, -1, -y)])
    for p, q in permutations(places, 2):
        a = q[0] - p[0]
        b = q[1] - p[1]
        found.update([(b, -a, b * q[0] - a * q[1]), (a, b, a * q[0] + b * q[1])])
    return sorted(found)


def excess(side, place):
    return side[0] * place[0] + side[1] * place[1] - side[2]


def held(side, some):
    return sum(1 for p in some if excess(side, p) <= 0)


def cut(corners, side):
    """What is left of a polygon, which may be a stretch or a lone place, when what is beyond the side is cut off."""
    left = []
    for at, q in enumerate(corners):
        p = corners[at - 1]
        before = excess(side, p)
        now = excess(side, q)
        if before * now < 0:
            share = Fraction(before) / (before - now)
            left.append((p[0] + share * (q[0] - p[0]), p[1] + share * (q[1] - p[1])))
        if now <= 0:
            left.append(q)
    return left


def left_of_all(sides):
    corners = [(-20000, -20000), (20000, -20000), (20000, 20000), (-20000, 20000)]
    for side in sides:
        corners = cut(corners, side)
    return corners


def do_meet(points, sets):
    """Whether the hulls of these sets have a place in common."""
    sides = set()
    for chosen in sets:
        some = [points[number] for number in members(chosen)]
        sides.update([side for side in sides_at(some) if held(side, some) == len(some)])
    corners = left_of_all(sorted(sides))
    for place in corners[:1]:
        if not all(sets_around(points, chosen, place) for chosen in sets):
            raise AssertionError(f"left over, but not in each hull: {points} {sets} {place}")
    return bool(corners)


def depth_at(points, place):
    d = Fraction(place[0]).denominator * Fraction(place[1]).denominator
    return depth(points, int(place[0] * d), int(place[1] * d), d)[0]


def deepest(points):
    """A place so deep is in each side that leaves out fewer points than that: else a line through it has too few."""
    for due in range(len(points), 0, -1):
        corners = left_of_all([side for side in sides_at(points) if len(points) - held(side, points) < due])
        if corners:
            if depth_at(points, corners[0]) < due:
                raise AssertionError(f"left over, but not so deep: {points} {due} {corners}")
            return [due]
    raise AssertionError("a point is 1 deep at least")


def parted(points, r):
    seen = {}
    for row in product(range(r), repeat=len(points)):
        if len(set(row)) < r:
            continue
        sets = frozenset(sum(2 ** at for at, part in enumerate(row) if part == number) for number in range(r))
        if sets not in seen:
            seen[sets] = do_meet(points, sets)
        if seen[sets]:
            return [1] + list(row)
    return [0]


def meet(points, *sets):
    if do_meet(points, set(sets)):
        return [1]
    seen = {}
    for three_of_them in combinations_with_replacement(range(len(sets)), 3):
        some = frozenset(sets[number] for number in three_of_them)
        if some not in seen:
            seen[some] = do_meet(points, some)
        if not seen[some]:
            return [0] + list(three_of_them)
    raise AssertionError(f"no three are apart: {points} {sets}")


def halves(points, s, t, u, v, c):
    for chosen in (s, t):
        some = [points[number] for number in members(chosen)]
        one_side = [p for p in some if u * p[0] + v * p[1] > c]
        other_side = [p for p in some if u * p[0] + v * p[1] < c]
        if max(len(one_side), len(other_side)) > Fraction(len(some), 2):
            return [0]
    return [1]
