"""Calls by their names, for the tests."""

from carpetworks.works import answers

NAMES = (
    "begin dye undye price tint untint grams room unroom door side turn set_turn wide drop pattern roll "
    "unroll makes least shows needed idle lacking centimetre first firsts seams widths strips all need "
    "order finer best_turn fits spare most total cheaper without look look_dye look_tint back again state"
).split()

# How many numbers each call takes, by the document's interface; order takes a row.
TAKES = {
    "begin": 3, "dye": 4, "undye": 1, "price": 2, "tint": 4, "untint": 1, "grams": 2, "room": 2, "unroom": 1,
    "door": 3, "side": 3, "turn": 1, "set_turn": 0, "wide": 1, "drop": 1, "pattern": 1, "roll": 2, "unroll": 1,
    "makes": 3, "least": 3, "shows": 3, "needed": 3, "idle": 0, "lacking": 0, "centimetre": 0, "first": 1,
    "firsts": 1, "seams": 1, "widths": 3, "strips": 1, "all": 0, "need": 0, "finer": 1, "best_turn": 0,
    "fits": 0, "spare": 0, "most": 0, "total": 0, "cheaper": 4, "without": 1, "look": 1, "look_dye": 1,
    "look_tint": 1, "back": 0, "again": 0, "state": 0,
}

TOP = 4294967295


def written(calls):
    """The list that is handed in; each call is a tuple of its name and its numbers, a row is a list."""
    flat = []
    for call in calls:
        flat.append(NAMES.index(call[0]))
        for value in call[1:]:
            if isinstance(value, list):
                flat.append(len(value))
                flat.extend(value)
            else:
                flat.append(value)
    return flat


def parted(told):
    """Each call's answer by itself."""
    found = []
    place = 0
    while place < len(told):
        count = told[place]
        found.append(told[place + 1:place + 1 + count])
        if len(found[-1]) != count or count < 1:
            raise AssertionError(f"a count that does not agree at {place}: {told}")
        place += 1 + count
    return found


def run(*calls):
    handed = written(calls)
    if len(calls) > 120 or len(handed) > 1200:
        raise AssertionError(f"more than may be handed in: {len(calls)} calls, {len(handed)} numbers")
    kept = list(handed)
    told = answers(handed)
    if handed != kept:
        raise AssertionError("what was handed in is changed")
    if answers(handed) != told:
        raise AssertionError("a second time the answers are others")
    if type(told) is not list or any(type(number) is not int for number in told):
        raise AssertionError(f"not a list of whole numbers: {told}")
    found = parted(told)
    if len(found) != len(calls):
        raise AssertionError(f"{len(calls)} calls, {len(found)} answers")
    return found


def room_calls(rooms):
    """The calls that tell the rooms; each is (across, along, doors, sides)."""
    calls = []
    for number, (across, along, doors, sides) in enumerate(rooms):
        calls.append(("room", across, along))
        calls += [("door", number, low, high) for low, high in doors]
        calls += [("side", number, low, high) for low, high in sides]
    return calls


def begun(*calls):
    """The answers of the calls behind a begin with repeat 12, drop 3, width 10."""
    return run(("begin", 12, 3, 10), *calls)[1:]


def last(*calls):
    return begun(*calls)[-1]
