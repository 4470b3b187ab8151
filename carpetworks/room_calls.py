"""The calls on rooms."""

from carpetworks.carpet_calls import MOST_WIDE
from carpetworks.keeping import CANNOT
from carpetworks.keeping import NONE_SUCH
from carpetworks.keeping import NOT_AS_TOLD
from carpetworks.keeping import add_one
from carpetworks.keeping import counted
from carpetworks.keeping import remove_one
from carpetworks.keeping import within
from carpetworks.laying import best_first
from carpetworks.laying import best_turning
from carpetworks.laying import clear_firsts
from carpetworks.laying import narrowest
from carpetworks.laying import room_strips
from carpetworks.laying import seams_of
from carpetworks.laying import strip_count
from carpetworks.laying import strip_rows
from carpetworks.laying import turned
from carpetworks.laying import turned_rooms
from carpetworks.state import Room

MOST_ROOMS = 3
MOST_OF_A_ROOM = 200
MOST_DOORS = 5


def add_room(state, given):
    if not within(given[0], 1, MOST_OF_A_ROOM) or not within(given[1], 1, MOST_OF_A_ROOM):
        return [NOT_AS_TOLD]
    return add_one(state.rooms, MOST_ROOMS, Room(given[0], given[1], [], []))


def remove_room(state, given):
    return remove_one(state.rooms, given[0])


def add_door(state, given):
    number = given[0]
    if number >= len(state.rooms):
        return [NONE_SUCH]
    room = state.rooms[number]
    if given[1] >= given[2] or given[2] > room.across:
        return [NOT_AS_TOLD]
    doors = list(room.doors)
    answer = add_one(doors, MOST_DOORS, (given[1], given[2]))
    state.rooms[number] = Room(room.across, room.along, doors, room.sides)
    return answer


def add_side(state, given):
    # A side is a door of the room turned, and held to the same. Without such a room none of these changes anything.
    turn_room(state, given)
    answer = add_door(state, given)
    turn_room(state, given)
    return answer


def turn_room(state, given):
    number = given[0]
    if number >= len(state.rooms):
        return [NONE_SUCH]
    room = state.rooms[number]
    state.rooms[number] = turned(room)
    return [room.along]


def tell_best_turn(state, given):
    best = best_turning(state.rooms, state)
    return [CANNOT] if best is None else list(best)


def turn_best(state, given):
    best = tell_best_turn(state, given)
    if best[0] >= 0:
        state.rooms = turned_rooms(state.rooms, best[1])
    return best


def tell_first(state, given):
    if given[0] >= len(state.rooms):
        return [NONE_SUCH]
    room = state.rooms[given[0]]
    first = best_first(room, state.wide)
    if first is None:
        return [CANNOT]
    return [first, strip_count(room, first, state.wide), narrowest(room, first, state.wide)]


def tell_firsts(state, given):
    if given[0] >= len(state.rooms):
        return [NONE_SUCH]
    return counted(clear_firsts(state.rooms[given[0]], state.wide))


def tell_seams(state, given):
    first = tell_first(state, given)
    if first[0] < 0:
        return first
    return counted(seams_of(state.rooms[given[0]], first[0], state.wide))


def tell_widths(state, given):
    if given[0] >= len(state.rooms):
        return [NONE_SUCH]
    if given[1] == 0 or not within(given[2], given[1], MOST_WIDE):
        return [NOT_AS_TOLD]
    room = state.rooms[given[0]]
    return counted([wide for wide in range(given[1], given[2] + 1) if len(clear_firsts(room, wide)) > 0])


def tell_strips(state, given):
    if given[0] >= len(state.rooms):
        return [NONE_SUCH]
    strips = room_strips(state.rooms[given[0]], state)
    return [CANNOT] if strips is None else strip_rows(strips)


def look_at_room(state, given):
    if given[0] >= len(state.rooms):
        return [NONE_SUCH]
    room = state.rooms[given[0]]
    told = [room.across, room.along, len(room.doors), len(room.sides)]
    for span in room.doors + room.sides:
        told.extend(span)
    return told


ROOM_CALLS = {
    7: add_room,
    8: remove_room,
    9: add_door,
    10: add_side,
    11: turn_room,
    12: turn_best,
    25: tell_first,
    26: tell_firsts,
    27: tell_seams,
    28: tell_widths,
    29: tell_strips,
    34: tell_best_turn,
    41: look_at_room,
}
