"""The calls on one heap of points, and what they answer."""

from hullpoints.depth import depth_among
from hullpoints.hull import least_around
from hullpoints.plane import arrows_from
from hullpoints.reader import Reader

POINTS = 0
IN = 1
THREE = 2
DEPTH = 3

WRONG = -1
NO_POINTS = -4

MOST_POINTS = 24
FARTHEST_POINT = 10000
# 2 to the power of 40, written out because a file's top holds plain numbers alone.
FARTHEST_PLACE = 1099511627776


class UnknownCall(ValueError):
    """A number that stands for no call, so nobody can tell where the next call begins."""


class Heap:
    """The points that there are from one call to the next."""

    def __init__(self):
        self.points = []

    def put(self, coordinates):
        if not are_points(coordinates):
            return [WRONG]
        self.points = paired(coordinates)
        return [len(self.points)]

    def within(self, chosen, place):
        found = self.three(chosen, place)
        return found[:1]

    def three(self, chosen, place):
        if not self.points:
            return [NO_POINTS]
        if not self.has_set(chosen) or not is_place(place):
            return [WRONG]
        least = least_around(arrows_from(place, self.points), members_of(chosen))
        if least == 0:
            return [0]
        return [1, least]

    def depth(self, place):
        if not self.points:
            return [NO_POINTS]
        if not is_place(place):
            return [WRONG]
        return [depth_among(arrows_from(place, self.points))]

    def has_set(self, chosen):
        return chosen > 0 and (chosen >> len(self.points)) == 0


def are_points(coordinates):
    if not 2 <= len(coordinates) <= 2 * MOST_POINTS:
        return False
    return all([-FARTHEST_POINT <= number <= FARTHEST_POINT for number in coordinates])


def paired(coordinates):
    return [(coordinates[at], coordinates[at + 1]) for at in range(0, len(coordinates), 2)]


def is_place(place):
    if not -FARTHEST_PLACE <= place[0] <= FARTHEST_PLACE:
        return False
    if not -FARTHEST_PLACE <= place[1] <= FARTHEST_PLACE:
        return False
    return 1 <= place[2] <= FARTHEST_PLACE


def members_of(chosen):
    """The numbers of a set's points, from the least on."""
    return [number for number in range(chosen.bit_length()) if (chosen >> number) & 1 == 1]


def answer_next(heap, reader):
    call = reader.take()
    if call == POINTS:
        return heap.put(reader.take_row())
    if call == IN:
        chosen = reader.take()
        return heap.within(chosen, reader.take_several(3))
    if call == THREE:
        chosen = reader.take()
        return heap.three(chosen, reader.take_several(3))
    if call == DEPTH:
        return heap.depth(reader.take_several(3))
    raise UnknownCall(f"no call has the number {call}")


def answers(calls):
    """What each call of the list answers: how many numbers, then these."""
    reader = Reader(calls)
    heap = Heap()
    given = []
    while reader.has_more():
        answer = answer_next(heap, reader)
        given.append(len(answer))
        given.extend(answer)
    return given
