"""Colours that are mixed of dyes, and lights that show that they can't be.

A colour, a dye and a light are tuples of three whole numbers here; dyes are a list of them.
"""

DARK = (0, 0, 0)
PARTS = ((1, 0, 0), (0, 1, 0), (0, 0, 1))
MOST_IN_A_MIX = 3


# The dyes with the numbers `members`; of each there are so many `shares`, of which `whole` make one.
class Mix:
    def __init__(self, members, shares, whole):
        self.members = members
        self.shares = shares
        self.whole = whole


def between(one, other):
    return (
        one[1] * other[2] - one[2] * other[1],
        one[2] * other[0] - one[0] * other[2],
        one[0] * other[1] - one[1] * other[0],
    )


def looks(light, parts):
    return light[0] * parts[0] + light[1] * parts[1] + light[2] * parts[2]


def turned_about(light):
    return (-light[0], -light[1], -light[2])


def share_one(dye, colour):
    if between(dye, colour) != DARK:
        return None
    # Of two that are multiples the sums are so too, and a dye's sum is never 0.
    return [sum(dye), sum(colour)]


def share_two(one, other, colour):
    normal = between(one, other)
    if normal == DARK or looks(normal, colour) != 0:
        return None
    # The light between the colour and one dye is the normal, as often as there is of the other dye.
    return [
        looks(normal, normal),
        looks(normal, between(colour, other)),
        looks(normal, between(one, colour)),
    ]


def share_three(one, other, third, colour):
    space = looks(one, between(other, third))
    if space == 0:
        return None
    sign = 1 if space > 0 else -1
    return [
        sign * space,
        sign * looks(colour, between(other, third)),
        sign * looks(one, between(colour, third)),
        sign * looks(one, between(other, colour)),
    ]


# How many shares make one, above 0, then the only shares of the chosen dyes that make the colour; else None.
def share(chosen, colour):
    if len(chosen) == 0:
        return [1] if colour == DARK else None
    if len(chosen) == 1:
        return share_one(chosen[0], colour)
    if len(chosen) == 2:
        return share_two(chosen[0], chosen[1], colour)
    return share_three(chosen[0], chosen[1], chosen[2], colour)


def one_longer(rows, count):
    longer = []
    for row in rows:
        start = row[-1] + 1 if len(row) > 0 else 0
        for number in range(start, count):
            longer.append(row + [number])
    return longer


# The rows of rising dyes' numbers that a mix may be of, in the order of the mixes.
def groups(count):
    rows = [[]]
    found = [[]]
    for size in range(MOST_IN_A_MIX):
        rows = one_longer(rows, count)
        found.extend(rows)
    return found


def mixes(dyes, colour):
    found = []
    for members in groups(len(dyes)):
        shares = share([dyes[number] for number in members], colour)
        if shares is not None and min(shares) >= 0:
            found.append(Mix(members, shares[1:], shares[0]))
    return found


def can_make(dyes, colour):
    # What can be made at all can be made by dyes that are apart in space, so the mixes tell it.
    return len(mixes(dyes, colour)) > 0


# What the mix costs, times its whole.
def share_cost(mix, prices):
    return sum([prices[number] * amount for number, amount in zip(mix.members, mix.shares)])


# The first of the mixes that costs least, or None.
def cheapest(dyes, prices, colour):
    best = None
    for mix in mixes(dyes, colour):
        if best is None or share_cost(mix, prices) * best.whole < share_cost(best, prices) * mix.whole:
            best = mix
    return best


# All lights that may be told, in their order, but not yet turned about.
def lights(dyes):
    found = []
    for one in dyes:
        found.extend([between(one, other) for other in dyes])
    for one in dyes:
        found.extend([between(one, part) for part in PARTS])
    found.extend(PARTS)
    return found


def does_show(light, dyes, colour):
    return looks(light, colour) > 0 and all([looks(light, dye) <= 0 for dye in dyes])


# The first light that shows that the colour can't be made, or None.
def light_told(dyes, colour):
    for light in lights(dyes):
        if does_show(light, dyes, colour):
            return light
        if does_show(turned_about(light), dyes, colour):
            return turned_about(light)
    return None
