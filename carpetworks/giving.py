"""Strips that are given to rolls."""

from carpetworks.cutting import set_ends
from carpetworks.keeping import in_set


# Of each set of the strips what its best order needs of the roll.
def roll_needs(strips, repeat, roll):
    return [end - roll.begins for end in set_ends(strips, repeat, roll.begins)]


# Of each roll the set of strips that the way gives it.
def given_sets(way, roll_count):
    sets = [0] * roll_count
    for strip, roll in enumerate(way):
        sets[roll] = sets[roll] + (1 << strip)
    return sets


# How much is left of each roll behind its strips, below 0 where they don't fit; needs are of each roll its roll_needs.
def left_over(way, rolls, needs):
    sets = given_sets(way, len(rolls))
    return [roll.length - need[chosen] for roll, need, chosen in zip(rolls, needs, sets)]


# The ways with one strip more, in the order of ways.
def longer_ways(ways, roll_count):
    longer = []
    for way in ways:
        longer.extend([way + [roll] for roll in range(roll_count)])
    return longer


# The first way by which the strips fit: of each strip its roll. None where they don't.
def first_way(strips, repeat, rolls):
    needs = [roll_needs(strips, repeat, roll) for roll in rolls]
    ways = [[]]
    for strip in strips:
        # What doesn't fit already doesn't with more strips either.
        ways = [way for way in longer_ways(ways, len(rolls)) if min(left_over(way, rolls, needs)) >= 0]
    return ways[0] if len(ways) > 0 else None


# How much is left of each roll, if the strips are given so.
def spare_of(way, strips, repeat, rolls):
    return left_over(way, rolls, [roll_needs(strips, repeat, roll) for roll in rolls])


# The sets that can be had of one of these and of other strips that need no more of a roll than it's long.
def with_roll(sets, needs, length):
    grown = {}
    for chosen in sets:
        for more, need in enumerate(needs):
            if chosen & more == 0 and need <= length:
                grown[chosen | more] = True
    return list(grown)


# The sets of strips that can be given to the rolls so that they fit.
def sets_that_fit(strips, repeat, rolls):
    sets = [0]
    for roll in rolls:
        sets = with_roll(sets, roll_needs(strips, repeat, roll), roll.length)
    return sets


def size_of(chosen):
    return len([number for number in range(chosen.bit_length()) if in_set(chosen, number)])


# The greatest of the sets that fit, the least as a number of like ones.
def most_that_fit(strips, repeat, rolls):
    return max(sorted(sets_that_fit(strips, repeat, rolls)), key=size_of)
