"""The calls on one heap of points, and what they answer."""

from hullpoints.depth import deepest_among, depth_among
from hullpoints.halves import does_halve
from hullpoints.hull import least_around
from hullpoints.meet import first_apart
from hullpoints.parted import first_parting
from hullpoints.plane import arrows_from
from hullpoints.reader import Reader

POINTS = 0
IN = 1
THREE = 2
DEPTH = 3
DEEPEST = 4
PARTED = 5
MEET = 6
HALVES = 7

WRONG = -1
NO_POINTS = -4

MOST_POINTS = 24
MOST_SETS = 16
FARTHEST_POINT = 10000
# 2 to the power of 40, written out because a file's top holds plain numbers alone.
FARTHEST_PLACE = 1099511627776


class UnknownCall(ValueError):
    """A number that stands for no call, so nobody can tell where the next call begins."""


class Heap:
    """The points that there are from one call to the next."""

    def __init__(self):
        self.points = []

    def put(self, coordinates):
        if not are_points(coordinates):
            return [WRONG]
        self.points = paired(coordinates)
        return [len(self.points)]

    def within(self, chosen, place):
        found = self.three(chosen, place)
        return found[:1]

    def three(self, chosen, place):
        if not self.points:
            return [NO_POINTS]
        if not self.has_set(chosen) or not is_place(place):
            return [WRONG]
        least = least_around(arrows_from(place, self.points), members_of(chosen))
        if least == 0:
            return [0]
        return [1, least]

    def depth(self, place):
        if not self.points:
            return [NO_POINTS]
        if not is_place(place):
            return [WRONG]
        return [depth_among(arrows_from(place, self.points))]

    def deepest(self):
        if not self.points:
            return [NO_POINTS]
        return [deepest_among(self.points)]

    def parted(self, parts):
        if not self.points:
            return [NO_POINTS]
        if not 1 <= parts <= len(self.points):
            return [WRONG]
        row = first_parting(self.points, parts)
        if not row:
            return [0]
        return [1] + row

    def meet(self, sets):
        if not self.points:
            return [NO_POINTS]
        if not 1 <= len(sets) <= MOST_SETS or not self.has_sets(sets):
            return [WRONG]
        apart = first_apart(self.points, sets)
        if not apart:
            return [1]
        return [0] + apart

    def halves(self, sets, line):
        if not self.points:
            return [NO_POINTS]
        if not self.has_sets(sets) or not is_line(line):
            return [WRONG]
        halved = [does_halve(line, self.points_of(chosen)) for chosen in sets]
        return [1 if all(halved) else 0]

    def has_set(self, chosen):
        return chosen > 0 and (chosen >> len(self.points)) == 0

    def has_sets(self, sets):
        return all([self.has_set(chosen) for chosen in sets])

    def points_of(self, chosen):
        return [self.points[number] for number in members_of(chosen)]


def are_points(coordinates):
    if not 2 <= len(coordinates) <= 2 * MOST_POINTS:
        return False
    return all([-FARTHEST_POINT <= number <= FARTHEST_POINT for number in coordinates])


def paired(coordinates):
    return [(coordinates[at], coordinates[at + 1]) for at in range(0, len(coordinates), 2)]


def is_place(place):
    if not -FARTHEST_PLACE <= place[0] <= FARTHEST_PLACE:
        return False
    if not -FARTHEST_PLACE <= place[1] <= FARTHEST_PLACE:
        return False
    return 1 <= place[2] <= FARTHEST_PLACE


def is_line(line):
    return line[0] != 0 or line[1] != 0


def members_of(chosen):
    """The numbers of a set's points, from the least on."""
    return [number for number in range(chosen.bit_length()) if (chosen >> number) & 1 == 1]


def answer_next(heap, reader):
    call = reader.take()
    if call == POINTS:
        return heap.put(reader.take_row())
    if call == IN:
        chosen = reader.take()
        return heap.within(chosen, reader.take_several(3))
    if call == THREE:
        chosen = reader.take()
        return heap.three(chosen, reader.take_several(3))
    if call == DEPTH:
        return heap.depth(reader.take_several(3))
    if call == DEEPEST:
        return heap.deepest()
    if call == PARTED:
        return heap.parted(reader.take())
    if call == MEET:
        return heap.meet(reader.take_row())
    if call == HALVES:
        sets = reader.take_several(2)
        return heap.halves(sets, reader.take_several(3))
    raise UnknownCall(f"no call has the number {call}")


def answers(calls):
    """What each call of the list answers: how many numbers, then these."""
    reader = Reader(calls)
    heap = Heap()
    given = []
    while reader.has_more():
        answer = answer_next(heap, reader)
        given.append(len(answer))
        given.extend(answer)
    return given
