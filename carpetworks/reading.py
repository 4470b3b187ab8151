"""Calls, as they are handed in one behind another."""

ORDER = 32

# How many whole numbers each call has behind its own number; that of ORDER tells how many it has itself.
GIVEN_COUNTS = (
    3, 4, 1, 2, 4, 1, 2, 2, 1, 3, 3, 1, 0, 1, 1, 1, 2, 1, 3, 3, 3, 3, 0, 0,
    0, 1, 1, 1, 3, 1, 0, 0, 0, 1, 0, 0, 0, 0, 0, 4, 1, 1, 1, 1, 0, 0, 0,
)


# Each call by itself: its number, then the whole numbers given to it (a row without its count).
def split_calls(calls):
    found = []
    place = 0
    while place < len(calls):
        number = calls[place]
        start = place + 1
        count = GIVEN_COUNTS[number]
        if number == ORDER:
            count = calls[start]
            start = start + 1
        place = start + count
        found.append((number, calls[start:place]))
    return found
