"""Changes that can be taken back, and done again."""

from carpetworks.keeping import NONE_SUCH
from carpetworks.state import State
from carpetworks.state import contents

MOST_CHANGES = 10


# The state that now is, those that back goes to, and those that again goes to; the nearest stands last in each.
class History:
    def __init__(self):
        self.now = State()
        self.earlier = []
        self.later = []


# None can be taken back to ahead of this state.
def begin_anew(history, state):
    history.now = state
    history.earlier = []
    history.later = []


def go_on(history, state):
    if contents(state) == contents(history.now):
        return
    history.earlier = (history.earlier + [history.now])[-MOST_CHANGES:]
    history.later = []
    history.now = state


def take_back(history):
    if len(history.earlier) == 0:
        return [NONE_SUCH]
    history.later.append(history.now)
    history.now = history.earlier.pop()
    return [len(history.earlier)]


def do_again(history):
    if len(history.later) == 0:
        return [NONE_SUCH]
    history.earlier.append(history.now)
    history.now = history.later.pop()
    return [len(history.later)]
