"""Arrows from a place to points, and how two arrows lie to one another."""


def arrows_from(place, points):
    """One arrow to each point, d times as long as it is, so that it stays in whole numbers."""
    x = place[0]
    y = place[1]
    d = place[2]
    return [(point[0] * d - x, point[1] * d - y) for point in points]


def arrow_between(start, end):
    return (end[0] - start[0], end[1] - start[1])


def is_nothing(arrow):
    return arrow[0] == 0 and arrow[1] == 0


def cross(one, other):
    """Above 0 if the other arrow lies to the left of the one, below 0 if to the right."""
    return one[0] * other[1] - one[1] * other[0]


def dot(one, other):
    return one[0] * other[0] + one[1] * other[1]
