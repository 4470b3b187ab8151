"""A carpet works, asked and changed by a list of calls."""

from carpetworks.carpet_calls import CARPET_CALLS
from carpetworks.dye_calls import DYE_CALLS
from carpetworks.keeping import NOT_BEGUN
from carpetworks.reading import split_calls
from carpetworks.room_calls import ROOM_CALLS
from carpetworks.state import State

BEGIN = 0


def answer_call(state, number, given):
    if not state.begun and number != BEGIN:
        return [NOT_BEGUN]
    if number in CARPET_CALLS:
        return CARPET_CALLS[number](state, given)
    if number in DYE_CALLS:
        return DYE_CALLS[number](state, given)
    if number in ROOM_CALLS:
        return ROOM_CALLS[number](state, given)
    raise NotImplementedError(f"call {number} is not built yet")


# For each call, in order, how many numbers are answered, then these.
def answers(calls):
    state = State()
    told = []
    for number, given in split_calls(calls):
        answer = answer_call(state, number, given)
        told.append(len(answer))
        told.extend(answer)
    return told
