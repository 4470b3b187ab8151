"""A carpet works, asked and changed by a list of calls."""

from carpetworks.all_calls import ALL_CALLS
from carpetworks.carpet_calls import CARPET_CALLS
from carpetworks.dye_calls import DYE_CALLS
from carpetworks.history import History
from carpetworks.history import begin_anew
from carpetworks.history import do_again
from carpetworks.history import go_on
from carpetworks.history import take_back
from carpetworks.keeping import NOT_BEGUN
from carpetworks.reading import split_calls
from carpetworks.room_calls import ROOM_CALLS
from carpetworks.state import copied

BEGIN = 0
BACK = 44
AGAIN = 45


# The answer of any call but back and again; the state is changed by it.
def answer_call(state, number, given):
    if number in CARPET_CALLS:
        return CARPET_CALLS[number](state, given)
    if number in DYE_CALLS:
        return DYE_CALLS[number](state, given)
    if number in ROOM_CALLS:
        return ROOM_CALLS[number](state, given)
    return ALL_CALLS[number](state, given)


def answer_in_turn(history, number, given):
    if not history.now.begun and number != BEGIN:
        return [NOT_BEGUN]
    if number == BACK:
        return take_back(history)
    if number == AGAIN:
        return do_again(history)
    # A copy is changed, so that what is refused leaves all as it was.
    state = copied(history.now)
    answer = answer_call(state, number, given)
    if answer[0] >= 0 and number == BEGIN:
        begin_anew(history, state)
    elif answer[0] >= 0:
        go_on(history, state)
    return answer


# For each call, in order, how many numbers are answered, then these.
def answers(calls):
    history = History()
    told = []
    for number, given in split_calls(calls):
        answer = answer_in_turn(history, number, given)
        told.append(len(answer))
        told.extend(answer)
    return told
