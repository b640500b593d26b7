"""The places at which to look for what hulls of some points have in common."""

from hullpoints.plane import arrow_between, cross


def telling_places(points):
    """Where the points lie, and where a stretch between two of them crosses another.

    What some hulls have in common has a corner, if it is anything. A corner is the corner of one of the hulls,
    so a point; or the rims of two hulls, which are stretches between points, cross there amid both. Anywhere
    else one could go a bit both ways along some line without leaving any of the hulls. So hulls that have a
    place in common at all have one of these in common.
    """
    corners = sorted(set(points))
    places = [(corner[0], corner[1], 1) for corner in corners]
    stretches = stretches_between(corners)
    for later in range(len(stretches)):
        for earlier in range(later):
            if do_cross(stretches[earlier], stretches[later]):
                places.append(crossing(stretches[earlier], stretches[later]))
    return places


def stretches_between(corners):
    stretches = []
    for end in range(len(corners)):
        for start in range(end):
            stretches.append((corners[start], corners[end]))
    return stretches


def do_cross(one, other):
    """Whether they cross amid both; where an end of one lies on the other, that end is a point and told already."""
    return is_parting(one, other) and is_parting(other, one)


def is_parting(stretch, other):
    """Whether the other's ends lie on different sides of the line along the stretch, none on it."""
    along = arrow_between(stretch[0], stretch[1])
    start_side = cross(along, arrow_between(stretch[0], other[0]))
    end_side = cross(along, arrow_between(stretch[0], other[1]))
    return start_side * end_side < 0


def crossing(one, other):
    """The place where the two cross: the start of the one, and share/d of the arrow along it."""
    start = one[0]
    along = arrow_between(one[0], one[1])
    across = arrow_between(other[0], other[1])
    d = cross(along, across)
    share = cross(arrow_between(one[0], other[0]), across)
    if d < 0:
        d = -d
        share = -share
    return (start[0] * d + along[0] * share, start[1] * d + along[1] * share, d)
