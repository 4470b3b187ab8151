"""The calls on the carpet: its beginning, its pattern and width, its rolls, and how many there are of all."""

from carpetworks.keeping import NOT_AS_TOLD
from carpetworks.keeping import add_one
from carpetworks.keeping import goes_into
from carpetworks.keeping import remove_one
from carpetworks.keeping import within
from carpetworks.state import Roll

MOST_REPEAT = 60
MOST_WIDE = 60
MOST_ROLLS = 3
MOST_OF_A_ROLL = 10000


def begin(state, given):
    if not within(given[0], 1, MOST_REPEAT) or given[1] >= given[0] or not within(given[2], 1, MOST_WIDE):
        return [NOT_AS_TOLD]
    state.start(given[0], given[1], given[2])
    state.begun = True
    return [0]


def set_wide(state, given):
    if not within(given[0], 1, MOST_WIDE):
        return [NOT_AS_TOLD]
    before = state.wide
    state.wide = given[0]
    return [before]


def set_drop(state, given):
    if given[0] >= state.repeat:
        return [NOT_AS_TOLD]
    before = state.drop
    state.drop = given[0]
    return [before]


def set_pattern(state, given):
    repeat = given[0]
    if not goes_into(repeat, state.repeat):
        return [NOT_AS_TOLD]
    before = state.repeat
    state.repeat = repeat
    state.drop = state.drop % repeat
    state.rolls = [Roll(roll.length, roll.begins % repeat) for roll in state.rolls]
    return [before]


def add_roll(state, given):
    if not within(given[0], 1, MOST_OF_A_ROLL) or given[1] >= state.repeat:
        return [NOT_AS_TOLD]
    return add_one(state.rolls, MOST_ROLLS, Roll(given[0], given[1]))


def remove_roll(state, given):
    return remove_one(state.rolls, given[0])


def tell_state(state, given):
    rows = [state.dyes, state.tints, state.rooms, state.rolls]
    return [state.repeat, state.drop, state.wide] + [len(row) for row in rows]


CARPET_CALLS = {
    0: begin,
    13: set_wide,
    14: set_drop,
    15: set_pattern,
    16: add_roll,
    17: remove_roll,
    46: tell_state,
}
