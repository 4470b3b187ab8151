"""The calls on rooms."""

from carpetworks.keeping import CANNOT
from carpetworks.keeping import NONE_SUCH
from carpetworks.keeping import NOT_AS_TOLD
from carpetworks.keeping import add_one
from carpetworks.keeping import remove_one
from carpetworks.keeping import within
from carpetworks.laying import best_turning
from carpetworks.laying import turned
from carpetworks.laying import turned_rooms
from carpetworks.state import Room

MOST_ROOMS = 3
MOST_OF_A_ROOM = 200
MOST_DOORS = 5


def add_room(state, given):
    if not within(given[0], 1, MOST_OF_A_ROOM) or not within(given[1], 1, MOST_OF_A_ROOM):
        return [NOT_AS_TOLD]
    return add_one(state.rooms, MOST_ROOMS, Room(given[0], given[1], [], []))


def remove_room(state, given):
    return remove_one(state.rooms, given[0])


def add_door(state, given):
    number = given[0]
    if number >= len(state.rooms):
        return [NONE_SUCH]
    room = state.rooms[number]
    if given[1] >= given[2] or given[2] > room.across:
        return [NOT_AS_TOLD]
    doors = list(room.doors)
    answer = add_one(doors, MOST_DOORS, (given[1], given[2]))
    state.rooms[number] = Room(room.across, room.along, doors, room.sides)
    return answer


def add_side(state, given):
    # A side is a door of the room turned, and held to the same. Without such a room none of these changes anything.
    turn_room(state, given)
    answer = add_door(state, given)
    turn_room(state, given)
    return answer


def turn_room(state, given):
    number = given[0]
    if number >= len(state.rooms):
        return [NONE_SUCH]
    room = state.rooms[number]
    state.rooms[number] = turned(room)
    return [room.along]


def turn_best(state, given):
    best = best_turning(state.rooms, state)
    if best is None:
        return [CANNOT]
    state.rooms = turned_rooms(state.rooms, best[1])
    return [best[0], best[1]]


ROOM_CALLS = {
    7: add_room,
    8: remove_room,
    9: add_door,
    10: add_side,
    11: turn_room,
    12: turn_best,
}
