"""What a carpet works holds.

A dye, tint, room or roll is never changed once it is made: another one is put in its place.
"""


class Dye:
    def __init__(self, parts, price):
        self.parts = parts
        self.price = price


class Tint:
    def __init__(self, colour, grams):
        self.colour = colour
        self.grams = grams


# Doors and sides are lists of (low, high).
class Room:
    def __init__(self, across, along, doors, sides):
        self.across = across
        self.along = along
        self.doors = doors
        self.sides = sides


class Roll:
    def __init__(self, length, begins):
        self.length = length
        self.begins = begins


class State:
    def __init__(self):
        self.begun = False
        self.start(1, 0, 1)

    def start(self, repeat, drop, wide):
        self.repeat = repeat
        self.drop = drop
        self.wide = wide
        self.dyes = []
        self.tints = []
        self.rooms = []
        self.rolls = []


# Another state that can be changed by itself.
def copied(state):
    other = State()
    other.begun = state.begun
    other.start(state.repeat, state.drop, state.wide)
    other.dyes.extend(state.dyes)
    other.tints.extend(state.tints)
    other.rooms.extend(state.rooms)
    other.rolls.extend(state.rolls)
    return other


# All that it holds as plain values, so that two states can be compared.
def contents(state):
    return (
        [state.repeat, state.drop, state.wide],
        [(dye.parts, dye.price) for dye in state.dyes],
        [(tint.colour, tint.grams) for tint in state.tints],
        [(room.across, room.along, room.doors, room.sides) for room in state.rooms],
        [(roll.length, roll.begins) for roll in state.rolls],
    )
