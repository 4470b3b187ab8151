"""What a carpet works holds.

A dye, tint, room or roll is never changed once it is made: another one is put in its place.
"""


class Dye:
    def __init__(self, parts, price):
        self.parts = parts
        self.price = price


class Tint:
    def __init__(self, colour, grams):
        self.colour = colour
        self.grams = grams


# Doors and sides are lists of (low, high).
class Room:
    def __init__(self, across, along, doors, sides):
        self.across = across
        self.along = along
        self.doors = doors
        self.sides = sides


class Roll:
    def __init__(self, length, begins):
        self.length = length
        self.begins = begins


class State:
    def __init__(self):
        self.begun = False
        self.start(1, 0, 1)

    def start(self, repeat, drop, wide):
        self.repeat = repeat
        self.drop = drop
        self.wide = wide
        self.dyes = []
        self.tints = []
        self.rooms = []
        self.rolls = []
