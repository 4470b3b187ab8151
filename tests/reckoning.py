"""A second reckoning of the whole works, for the tests: by fractions, and by trying everything out."""

import copy
import functools
import itertools
from fractions import Fraction


def solved(columns, colour):
    """The only amounts of the columns that make the colour, or None; by elimination."""
    rows = [[Fraction(column[part]) for column in columns] + [Fraction(colour[part])] for part in range(3)]
    done = 0
    for column in range(len(columns)):
        pivot = next((row for row in range(done, 3) if rows[row][column] != 0), None)
        if pivot is None:
            return None
        rows[done], rows[pivot] = rows[pivot], rows[done]
        rows[done] = [value / rows[done][column] for value in rows[done]]
        for row in range(3):
            if row != done:
                rows[row] = [a - rows[row][column] * b for a, b in zip(rows[row], rows[done])]
        done += 1
    if any(rows[row][-1] != 0 for row in range(done, 3)):
        return None
    return [rows[row][-1] for row in range(done)]


def expected_mixes(dyes, colour):
    found = []
    for size in range(4):
        for members in itertools.combinations(range(len(dyes)), size):
            amounts = solved([dyes[number][:3] for number in members], colour)
            if amounts is not None and all(amount >= 0 for amount in amounts):
                cost = sum((dyes[number][3] * amount for number, amount in zip(members, amounts)), Fraction(0))
                found.append((cost, members, amounts))
    return found


def expected_least(dyes, colour):
    mixes = expected_mixes(dyes, colour)
    if not mixes:
        return [-33]
    cost, members, amounts = min(mixes, key=lambda mix: mix[0])
    told = [len(members), cost.numerator, cost.denominator]
    for number, amount in zip(members, amounts):
        told += [number, amount.numerator, amount.denominator]
    return told


def cross(a, b):
    return (a[1] * b[2] - a[2] * b[1], a[2] * b[0] - a[0] * b[2], a[0] * b[1] - a[1] * b[0])


def dot(a, b):
    return sum(x * y for x, y in zip(a, b))


def expected_shows(dyes, colour):
    parts = ((1, 0, 0), (0, 1, 0), (0, 0, 1))
    dyes = [dye[:3] for dye in dyes]
    asked = [cross(a, b) for a in dyes for b in dyes] + [cross(a, b) for a in dyes for b in parts] + list(parts)
    for light in asked:
        for sign in (1, -1):
            strengths = tuple(sign * value for value in light)
            if dot(strengths, colour) > 0 and all(dot(strengths, dye) <= 0 for dye in dyes):
                return [0, *strengths, dot(strengths, colour)]
    return [-33]


def expected_needed(dyes, colour):
    if not expected_mixes(dyes, colour):
        return [-33]
    found = [number for number in range(len(dyes)) if not expected_mixes(dyes[:number] + dyes[number + 1:], colour)]
    return [len(found)] + found


def expected_idle(dyes):
    found = [number for number in range(len(dyes))
             if expected_mixes(dyes[:number] + dyes[number + 1:], dyes[number][:3])]
    return [len(found)] + found


def layings(across, doors, wide):
    """Of each first strip's width that is clear the widths of all strips."""
    found = {}
    for first in range(1, wide + 1):
        widths = [min(first, across)]
        while sum(widths) < across:
            widths.append(min(wide, across - sum(widths)))
        seams = list(itertools.accumulate(widths))[:-1]
        if not any(low < seam < high for seam in seams for low, high in doors):
            found[first] = widths
    return found


def best_laying(across, doors, wide):
    """The best first strip's width and the widths of all strips by it, or None."""
    found = layings(across, doors, wide)
    if not found:
        return None
    fewest = min(len(widths) for widths in found.values())
    found = {first: widths for first, widths in found.items() if len(widths) == fewest}
    widest = max(min(widths) for widths in found.values())
    first = max(first for first, widths in found.items() if min(widths) == widest)
    return first, found[first]


def cut(strips, repeat, begins=0):
    """How much of a roll is needed for the strips in their order; it is gone along a centimetre at a time."""
    end = 0
    for length, place in strips:
        while (begins + end) % repeat != place:
            end += 1
        end += length
    return end


@functools.lru_cache(maxsize=None)
def best_cut(strips, repeat, begins=0):
    """How much the best order of the strips needs, and that order."""
    orders = itertools.permutations(range(len(strips)))
    return min((cut([strips[number] for number in order], repeat, begins), order) for order in orders)


def strips_of_room(repeat, drop, wide, room):
    across, along, doors, sides = room
    best = best_laying(across, doors, wide)
    return None if best is None else [(along, number * drop % repeat) for number in range(len(best[1]))]


def strips_of_all(repeat, drop, wide, rooms):
    """All strips as tuples (length, place), or None where they can't be laid."""
    each = [strips_of_room(repeat, drop, wide, room) for room in rooms]
    if None in each or sum(len(strips) for strips in each) > 6:
        return None
    return tuple(strip for strips in each for strip in strips)


def turned(room):
    across, along, doors, sides = room
    return (along, across, sides, doors)


def turned_so(rooms, chosen):
    return [turned(room) if chosen // 2 ** number % 2 == 1 else room for number, room in enumerate(rooms)]


def expected_turning(repeat, drop, wide, rooms):
    """The answer to best_turn and set_turn; a room is (across, along, doors, sides)."""
    found = []
    for chosen in range(2 ** len(rooms)):
        strips = strips_of_all(repeat, drop, wide, turned_so(rooms, chosen))
        if strips is not None:
            found.append([best_cut(strips, repeat)[0], chosen])
    return min(found, default=[-33])


def spares(strips, way, repeat, rolls):
    """How much is left of each roll, below 0 where its strips don't fit."""
    left = []
    for number, (length, begins) in enumerate(rolls):
        own = tuple(strip for strip, roll in zip(strips, way) if roll == number)
        left.append(length - best_cut(own, repeat, begins)[0])
    return left


def expected_way(strips, repeat, rolls):
    """The first way by which the strips fit, or None."""
    for way in itertools.product(range(len(rolls)), repeat=len(strips)):
        if min(spares(strips, way, repeat, rolls)) >= 0:
            return list(way)
    return None


def expected_most(strips, repeat, rolls):
    found = []
    for chosen in range(2 ** len(strips)):
        own = tuple(strip for number, strip in enumerate(strips) if chosen // 2 ** number % 2 == 1)
        if expected_way(own, repeat, rolls) is not None:
            found.append((-len(own), chosen))
    return [-min(found)[0], min(found)[1]]


def expected_centimetre(dyes, tints):
    """What a centimetre costs, or None where a colour lacks; a tint is (x, y, z, grams)."""
    together = Fraction(0)
    for tint in tints:
        costs = [cost for cost, members, amounts in expected_mixes(dyes, tint[:3])]
        if not costs:
            return None
        together += min(costs) * tint[3]
    return together


class Refused(Exception):
    pass


def refuse(number, due):
    if due:
        raise Refused(number)


def as_told(number, least, most):
    return number in range(least, most + 1)


def is_dye(x, y, z, price):
    return max(x, y, z) <= 50 and x + y + z > 0 and price <= 1000


def is_colour(x, y, z):
    return max(x, y, z) <= 1000


class Model:
    """One works; answer takes a call as a tuple of its name and numbers."""

    def __init__(self):
        self.now = None
        self.earlier = []
        self.later = []

    def answer(self, call):
        name, given = call[0], call[1:]
        if self.now is None and name != "begin":
            return [-61]
        before = copy.deepcopy(self.now)
        try:
            told = getattr(self, name)(*given)
        except Refused as refusal:
            return [refusal.args[0]]
        if name not in ("begin", "back", "again") and self.now != before:
            self.earlier = (self.earlier + [before])[-10:]
            self.later = []
        return told

    def laid(self):
        """The carpet's numbers and the rooms."""
        return self.now["repeat"], self.now["drop"], self.now["wide"], self.now["rooms"]

    def all_or_refuse(self):
        strips = strips_of_all(*self.laid())
        refuse(-33, strips is None)
        return strips

    def make(self, colour):
        refuse(-22, not is_colour(*colour))
        return expected_mixes(self.now["dyes"], colour)

    def swap(self, key, value):
        before = self.now[key]
        self.now[key] = value
        return [before]

    def add(self, row, most, new):
        refuse(-28, len(row) == most)
        row.append(new)
        return [len(row) - 1]

    def take(self, key, number):
        self.one(key, number)
        self.now[key].pop(number)
        return [len(self.now[key])]

    def one(self, key, number):
        refuse(-2, number >= len(self.now[key]))
        return self.now[key][number]

    def begin(self, repeat, drop, wide):
        refuse(-22, not (as_told(repeat, 1, 60) and drop < repeat and as_told(wide, 1, 60)))
        self.now = {"repeat": repeat, "drop": drop, "wide": wide, "dyes": [], "tints": [], "rooms": [], "rolls": []}
        self.earlier = []
        self.later = []
        return [0]

    def dye(self, *given):
        refuse(-22, not is_dye(*given))
        return self.add(self.now["dyes"], 5, given)

    def undye(self, i):
        return self.take("dyes", i)

    def price(self, i, p):
        dye = self.one("dyes", i)
        refuse(-22, p > 1000)
        self.now["dyes"][i] = dye[:3] + (p,)
        return [dye[3]]

    def tint(self, x, y, z, grams):
        refuse(-22, not is_colour(x, y, z) or not as_told(grams, 1, 1000))
        return self.add(self.now["tints"], 4, (x, y, z, grams))

    def untint(self, k):
        return self.take("tints", k)

    def grams(self, k, n):
        tint = self.one("tints", k)
        refuse(-22, not as_told(n, 1, 1000))
        self.now["tints"][k] = tint[:3] + (n,)
        return [tint[3]]

    def room(self, across, along):
        refuse(-22, not as_told(across, 1, 200) or not as_told(along, 1, 200))
        return self.add(self.now["rooms"], 3, (across, along, [], []))

    def unroom(self, r):
        return self.take("rooms", r)

    def door(self, r, low, high):
        across, along, doors, sides = self.one("rooms", r)
        refuse(-22, not low < high <= across)
        return self.add(doors, 5, (low, high))

    def side(self, r, low, high):
        across, along, doors, sides = self.one("rooms", r)
        refuse(-22, not low < high <= along)
        return self.add(sides, 5, (low, high))

    def turn(self, r):
        room = self.one("rooms", r)
        self.now["rooms"][r] = turned(room)
        return [room[1]]

    def best_turn(self):
        told = expected_turning(*self.laid())
        refuse(-33, told == [-33])
        return told

    def set_turn(self):
        told = self.best_turn()
        self.now["rooms"] = turned_so(self.now["rooms"], told[1])
        return told

    def wide(self, w):
        refuse(-22, not as_told(w, 1, 60))
        return self.swap("wide", w)

    def drop(self, d):
        refuse(-22, d >= self.now["repeat"])
        return self.swap("drop", d)

    def pattern(self, n):
        refuse(-22, n == 0 or self.now["repeat"] % n != 0)
        self.now["drop"] %= n
        self.now["rolls"] = [(length, begins % n) for length, begins in self.now["rolls"]]
        return self.swap("repeat", n)

    def roll(self, length, begins):
        refuse(-22, not as_told(length, 1, 10000) or begins >= self.now["repeat"])
        return self.add(self.now["rolls"], 3, (length, begins))

    def unroll(self, j):
        return self.take("rolls", j)

    def makes(self, *colour):
        return [1 if self.make(colour) else 0]

    def least(self, *colour):
        refuse(-33, not self.make(colour))
        return expected_least(self.now["dyes"], colour)

    def shows(self, *colour):
        refuse(-33, self.make(colour))
        return expected_shows(self.now["dyes"], colour)

    def needed(self, *colour):
        refuse(-33, not self.make(colour))
        return expected_needed(self.now["dyes"], colour)

    def idle(self):
        return expected_idle(self.now["dyes"])

    def lacking(self):
        found = [number for number, tint in enumerate(self.now["tints"]) if not self.make(tint[:3])]
        return [len(found)] + found

    def centimetre(self):
        cost = expected_centimetre(self.now["dyes"], self.now["tints"])
        refuse(-33, cost is None)
        return [0, cost.numerator, cost.denominator]

    def best(self, r):
        across, along, doors, sides = self.one("rooms", r)
        best = best_laying(across, doors, self.now["wide"])
        refuse(-33, best is None)
        return best

    def first(self, r):
        first, widths = self.best(r)
        return [first, len(widths), min(widths)]

    def firsts(self, r):
        across, along, doors, sides = self.one("rooms", r)
        found = list(layings(across, doors, self.now["wide"]))
        return [len(found)] + found

    def seams(self, r):
        first, widths = self.best(r)
        return [len(widths) - 1] + list(itertools.accumulate(widths))[:-1]

    def widths(self, r, low, high):
        across, along, doors, sides = self.one("rooms", r)
        refuse(-22, low == 0 or high < low or high > 60)
        found = [wide for wide in range(low, high + 1) if layings(across, doors, wide)]
        return [len(found)] + found

    def strips(self, r):
        self.best(r)
        strips = strips_of_room(*self.laid()[:3], self.one("rooms", r))
        return [len(strips)] + [number for strip in strips for number in strip]

    def all(self):
        strips = self.all_or_refuse()
        return [len(strips)] + [number for strip in strips for number in strip]

    def need(self):
        need, order = best_cut(self.all_or_refuse(), self.now["repeat"])
        return [need, *order]

    def order(self, row):
        strips = self.all_or_refuse()
        refuse(-22, sorted(row) != list(range(len(strips))))
        need = cut([strips[number] for number in row], self.now["repeat"])
        return [need, need - sum(length for length, place in strips)]

    def finer(self, n):
        refuse(-22, n == 0 or self.now["repeat"] % n != 0)
        repeat, drop, wide, rooms = self.laid()
        strips = strips_of_all(n, drop % n, wide, rooms)
        refuse(-33, strips is None)
        return [best_cut(strips, n)[0]]

    def way(self):
        refuse(-6, not self.now["rolls"])
        strips = self.all_or_refuse()
        way = expected_way(strips, self.now["repeat"], self.now["rolls"])
        refuse(-33, way is None)
        return strips, way

    def fits(self):
        strips, way = self.way()
        return [len(way)] + way

    def spare(self):
        strips, way = self.way()
        left = spares(strips, way, self.now["repeat"], self.now["rolls"])
        return [len(left)] + left

    def most(self):
        refuse(-6, not self.now["rolls"])
        return expected_most(self.all_or_refuse(), self.now["repeat"], self.now["rolls"])

    def cost(self, dyes):
        need = best_cut(self.all_or_refuse(), self.now["repeat"])[0]
        cost = expected_centimetre(dyes, self.now["tints"])
        refuse(-33, cost is None)
        return [0, (need * cost).numerator, (need * cost).denominator]

    def total(self):
        return self.cost(self.now["dyes"])

    def cheaper(self, *given):
        refuse(-22, not is_dye(*given))
        refuse(-28, len(self.now["dyes"]) == 5)
        return self.cost(self.now["dyes"] + [given])

    def without(self, i):
        self.one("dyes", i)
        return self.cost(self.now["dyes"][:i] + self.now["dyes"][i + 1:])

    def look(self, r):
        across, along, doors, sides = self.one("rooms", r)
        return [across, along, len(doors), len(sides)] + [number for span in doors + sides for number in span]

    def look_dye(self, i):
        x, y, z, price = self.one("dyes", i)
        return [price, x, y, z]

    def look_tint(self, k):
        x, y, z, grams = self.one("tints", k)
        return [grams, x, y, z]

    def back(self):
        refuse(-2, not self.earlier)
        self.later.append(self.now)
        self.now = self.earlier.pop()
        return [len(self.earlier)]

    def again(self):
        refuse(-2, not self.later)
        self.earlier.append(self.now)
        self.now = self.later.pop()
        return [len(self.later)]

    def state(self):
        return [self.now[key] for key in ("repeat", "drop", "wide")] + [
            len(self.now[key]) for key in ("dyes", "tints", "rooms", "rolls")]
