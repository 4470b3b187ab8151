"""Rooms that are laid with strips, no seam in a doorway."""

from carpetworks.cutting import Strip
from carpetworks.cutting import least_need
from carpetworks.keeping import in_set
from carpetworks.state import Room

MOST_STRIPS = 6


def turned(room):
    return Room(room.along, room.across, room.sides, room.doors)


# The rooms, those turned that are in the set.
def turned_rooms(rooms, chosen):
    return [turned(room) if in_set(chosen, number) else room for number, room in enumerate(rooms)]


def seams_of(room, first, wide):
    return list(range(first, room.across, wide))


def is_clear(room, first, wide):
    for seam in seams_of(room, first, wide):
        for low, high in room.doors:
            if low < seam and seam < high:
                return False
    return True


# How many strips the room takes with its best first strip, or None where no first strip is clear.
def strip_count(room, wide):
    clear = [first for first in range(1, wide + 1) if is_clear(room, first, wide)]
    return min([len(seams_of(room, first, wide)) + 1 for first in clear], default=None)


# All strips of the rooms, in order, or None where they can't be laid.
def all_strips(rooms, carpet):
    strips = []
    for room in rooms:
        count = strip_count(room, carpet.wide)
        if count is None:
            return None
        strips.extend([Strip(room.along, number * carpet.drop % carpet.repeat) for number in range(count)])
    return strips if len(strips) <= MOST_STRIPS else None


# How much all needs at the least, and the least set of rooms turned by which it does, or None.
def best_turning(rooms, carpet):
    best = None
    for chosen in range(1 << len(rooms)):
        strips = all_strips(turned_rooms(rooms, chosen), carpet)
        if strips is not None:
            need = least_need(strips, carpet.repeat)
            if best is None or need < best[0]:
                best = (need, chosen)
    return best
