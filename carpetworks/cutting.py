"""Strips that are cut from a roll so that the pattern meets."""

from carpetworks.keeping import in_set


# So many centimetres long, and the place in the pattern at which it begins.
class Strip:
    def __init__(self, length, place):
        self.length = length
        self.place = place


# Where the strip ends on a roll from place 0 of the pattern on, cut at the first fit from start on.
def cut_end(start, strip, repeat):
    return start + (strip.place - start) % repeat + strip.length


# How much the best order of the strips needs.
def least_need(strips, repeat):
    # A strip that may be cut from earlier on never ends later. So of each set of strips the least end
    # is enough to go on from, whatever order it is had by.
    ends = [0]
    for chosen in range(1, 1 << len(strips)):
        found = []
        for number, strip in enumerate(strips):
            if in_set(chosen, number):
                found.append(cut_end(ends[chosen - (1 << number)], strip, repeat))
        ends.append(min(found))
    return ends[-1]
