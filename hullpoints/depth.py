"""How deep a place lies among points, told by the arrows from that place to the points."""

from hullpoints.places import telling_places
from hullpoints.plane import arrows_from, cross, dot, is_nothing


def deepest_among(points):
    """The greatest depth that any place has.

    The places that are so deep at least are what some hulls have in common: those of all sets that leave out
    fewer points than that. So one of the telling places is among them.
    """
    return max([depth_among(arrows_from(place, points)) for place in telling_places(points)])


def depth_among(arrows):
    """The fewest points on one side of a line through the place, those on the line counted too.

    Points at the place itself are on every line through it.
    """
    outer = [arrow for arrow in arrows if not is_nothing(arrow)]
    fewest = len(outer)
    for arrow in outer:
        fewest = min(fewest, fewest_beside(arrow, outer))
    return len(arrows) - len(outer) + fewest


def fewest_beside(along, arrows):
    """The fewest on one side of the line along this arrow, turned by a hair.

    A line counts the points on it on both sides. Turned by a hair it has those ahead on the one side alone
    and those behind on the other, so the fewest is always met by a line with no point on it; and each such line
    has the same points on its sides as one that is turned by a hair, the one way or the other, off some point.
    """
    left = 0
    right = 0
    ahead = 0
    behind = 0
    for arrow in arrows:
        turn = cross(along, arrow)
        if turn > 0:
            left += 1
        elif turn < 0:
            right += 1
        elif dot(along, arrow) > 0:
            ahead += 1
        else:
            behind += 1
    return min(left, right) + min(ahead, behind)
