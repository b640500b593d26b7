"""Which hulls have which places in common."""

from hullpoints.hull import holds_one, sets_around
from hullpoints.places import telling_places
from hullpoints.plane import arrows_from


def arounds_of(points):
    """For each telling place, the small sets that have it in their hull."""
    return [sets_around(arrows_from(place, points)) for place in telling_places(points)]


def reach_of(chosen, arounds):
    """Which of the telling places are in the set's hull: the sum of 2 to the power of each one's number."""
    reach = 0
    for number, around in enumerate(arounds):
        if holds_one(chosen, around):
            reach |= 1 << number
    return reach


def share_a_place(reaches):
    shared = reaches[0]
    for reach in reaches:
        shared &= reach
    return shared != 0
