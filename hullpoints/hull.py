"""Which points have a place in their hull, told by the arrows from that place to the points."""

from hullpoints.plane import cross, dot, is_nothing


def least_around(arrows, members):
    """The least set of at most three members with the place in its hull, or 0, which is no set.

    What is in a hull is in the hull of at most three of its points, so 0 says that the place is not in it.
    The sets are gone through from the least number on, so the first that fits is the least.
    """
    for top in members:
        if is_nothing(arrows[top]):
            return 1 << top
        found = least_around_with(top, arrows, members_below(top, members))
        if found != 0:
            return found
    return 0


def least_around_with(top, arrows, below):
    """As least_around, of the sets of two or three members whose greatest is top."""
    for middle in below:
        if is_between(arrows[middle], arrows[top]):
            return (1 << middle) | (1 << top)
        for low in members_below(middle, below):
            if is_amid(arrows[low], arrows[middle], arrows[top]):
                return (1 << low) | (1 << middle) | (1 << top)
    return 0


def sets_around(arrows):
    """Sets of at most three points with the place in their hull, so that each set that has it there holds one.

    A triangle with the place on its rim is left out, since it holds one of fewer points.
    """
    found = []
    for top in range(len(arrows)):
        if is_nothing(arrows[top]):
            found.append(1 << top)
        for middle in range(top):
            if is_between(arrows[middle], arrows[top]):
                found.append((1 << middle) | (1 << top))
            for low in range(middle):
                if is_amid(arrows[low], arrows[middle], arrows[top]):
                    found.append((1 << low) | (1 << middle) | (1 << top))
    return found


def holds_one(chosen, around):
    """Whether the set holds all points of one of these sets."""
    return any([chosen & small == small for small in around])


def members_below(bound, members):
    return [member for member in members if member < bound]


def is_between(one, other):
    return cross(one, other) == 0 and dot(one, other) <= 0


def is_amid(first, second, third):
    """Whether the place is inside the triangle, off its rim.

    The rim belongs to sets of two of these, which are lesser numbers and so looked at earlier. Taking it in
    here would let three points pass that lie on one straight line with the place, all on one side of it.
    """
    turns = (cross(first, second), cross(second, third), cross(third, first))
    return min(turns) > 0 or max(turns) < 0
