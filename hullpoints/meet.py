"""Whether hulls all have a place in common, told by each three of them."""

from hullpoints.common import arounds_of, reach_of, share_a_place


def first_apart(points, sets):
    """The first three of the sets whose hulls have no place in common, or [] if all hulls have one.

    In the plane, hulls of which each three have a place in common all have one (Helly), so nothing but threes
    needs to be looked at. With one of them standing there again, each two are among the threes.
    """
    arounds = arounds_of(points)
    reaches = [reach_of(chosen, arounds) for chosen in sets]
    for first in range(len(sets)):
        for second in range(first, len(sets)):
            for third in range(second, len(sets)):
                if not share_a_place([reaches[first], reaches[second], reaches[third]]):
                    return [first, second, third]
    return []
