"""Strips that are cut from a roll so that the pattern meets.

Where a cut lies is told in centimetres from a place 0 of the pattern on; so a roll's beginning is the place in the
pattern at which it begins.
"""

from carpetworks.keeping import in_set


# So many centimetres long, and the place in the pattern at which it begins.
class Strip:
    def __init__(self, length, place):
        self.length = length
        self.place = place


# Where the strip ends, cut at the first fit from start on.
def cut_end(start, strip, repeat):
    return start + (strip.place - start) % repeat + strip.length


# How much of a roll the strips need in the order in which they stand.
def order_need(strips, repeat):
    end = 0
    for strip in strips:
        end = cut_end(end, strip, repeat)
    return end


# Of each set of the strips where it ends in the best order, cut from start on.
def set_ends(strips, repeat, start):
    # A strip that may be cut from earlier on never ends later. So of each set of strips the least end
    # is enough to go on from, whatever order it is had by.
    ends = [start]
    for chosen in range(1, 1 << len(strips)):
        found = []
        for number, strip in enumerate(strips):
            if in_set(chosen, number):
                found.append(cut_end(ends[chosen - (1 << number)], strip, repeat))
        ends.append(min(found))
    return ends


def least_end(strips, repeat, start):
    return set_ends(strips, repeat, start)[-1]


# How much the best order of the strips needs.
def least_need(strips, repeat):
    return least_end(strips, repeat, 0)


# Where all that are left end at the least, if the one with that number is cut first.
def end_with_next(strips, repeat, left, number, start):
    others = [strips[other] for other in left if other != number]
    return least_end(others, repeat, cut_end(start, strips[number], repeat))


# The numbers of the strips in their best order.
def best_order(strips, repeat):
    order = []
    left = list(range(len(strips)))
    end = 0
    while len(left) > 0:
        ends = [end_with_next(strips, repeat, left, number, end) for number in left]
        # The first place of the least end is the lesser strip of like ones.
        chosen = left[ends.index(min(ends))]
        end = cut_end(end, strips[chosen], repeat)
        order.append(chosen)
        left.remove(chosen)
    return order
