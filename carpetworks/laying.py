"""Rooms that are laid with strips, no seam in a doorway."""

from carpetworks.cutting import Strip
from carpetworks.cutting import least_need
from carpetworks.keeping import in_set
from carpetworks.state import Room

MOST_STRIPS = 6


def turned(room):
    return Room(room.along, room.across, room.sides, room.doors)


# The rooms, those turned that are in the set.
def turned_rooms(rooms, chosen):
    return [turned(room) if in_set(chosen, number) else room for number, room in enumerate(rooms)]


def seams_of(room, first, wide):
    return list(range(first, room.across, wide))


def is_clear(room, first, wide):
    for seam in seams_of(room, first, wide):
        for low, high in room.doors:
            if low < seam and seam < high:
                return False
    return True


def clear_firsts(room, wide):
    return [first for first in range(1, wide + 1) if is_clear(room, first, wide)]


def strip_count(room, first, wide):
    return len(seams_of(room, first, wide)) + 1


def narrowest(room, first, wide):
    seams = seams_of(room, first, wide)
    if len(seams) == 0:
        return room.across
    return min(first, room.across - seams[-1])


# The width of the best first strip, or None where none is clear.
def best_first(room, wide):
    return max(
        clear_firsts(room, wide),
        key=lambda first: (-strip_count(room, first, wide), narrowest(room, first, wide), first),
        default=None,
    )


# The room's strips, in order, or None where no first strip is clear.
def room_strips(room, carpet):
    first = best_first(room, carpet.wide)
    if first is None:
        return None
    count = strip_count(room, first, carpet.wide)
    return [Strip(room.along, number * carpet.drop % carpet.repeat) for number in range(count)]


# All strips of the rooms, in order, or None where they can't be laid.
def all_strips(rooms, carpet):
    strips = []
    for room in rooms:
        more = room_strips(room, carpet)
        if more is None:
            return None
        strips.extend(more)
    return strips if len(strips) <= MOST_STRIPS else None


# How many strips, then of each how long it is and where it begins in the pattern.
def strip_rows(strips):
    told = [len(strips)]
    for strip in strips:
        told.extend([strip.length, strip.place])
    return told


# How much all needs at the least, and the least set of rooms turned by which it does, or None.
def best_turning(rooms, carpet):
    best = None
    for chosen in range(1 << len(rooms)):
        strips = all_strips(turned_rooms(rooms, chosen), carpet)
        if strips is not None:
            need = least_need(strips, carpet.repeat)
            if best is None or need < best[0]:
                best = (need, chosen)
    return best
