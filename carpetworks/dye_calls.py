"""The calls on dyes, tints and colours."""

from carpetworks.colours import DARK
from carpetworks.colours import can_make
from carpetworks.colours import cheapest
from carpetworks.colours import light_told
from carpetworks.colours import looks
from carpetworks.colours import share_cost
from carpetworks.costs import centimetre_cost
from carpetworks.keeping import CANNOT
from carpetworks.keeping import NONE_SUCH
from carpetworks.keeping import NOT_AS_TOLD
from carpetworks.keeping import add_one
from carpetworks.keeping import all_but
from carpetworks.keeping import counted
from carpetworks.keeping import remove_one
from carpetworks.keeping import within
from carpetworks.ratios import lowest
from carpetworks.state import Dye
from carpetworks.state import Tint

MOST_DYES = 5
MOST_TINTS = 4
MOST_OF_A_DYE_PART = 50
MOST_OF_A_COLOUR_PART = 1000
MOST_PRICE = 1000
MOST_GRAMS = 1000


def is_dye(parts, cost):
    return parts != DARK and max(parts) <= MOST_OF_A_DYE_PART and cost <= MOST_PRICE


def is_colour(colour):
    return max(colour) <= MOST_OF_A_COLOUR_PART


def dye_parts(state):
    return [dye.parts for dye in state.dyes]


def add_dye(state, given):
    parts = tuple(given[:3])
    if not is_dye(parts, given[3]):
        return [NOT_AS_TOLD]
    return add_one(state.dyes, MOST_DYES, Dye(parts, given[3]))


def remove_dye(state, given):
    return remove_one(state.dyes, given[0])


def set_price(state, given):
    number = given[0]
    if number >= len(state.dyes):
        return [NONE_SUCH]
    if given[1] > MOST_PRICE:
        return [NOT_AS_TOLD]
    dye = state.dyes[number]
    state.dyes[number] = Dye(dye.parts, given[1])
    return [dye.price]


def add_tint(state, given):
    colour = tuple(given[:3])
    if not is_colour(colour) or not within(given[3], 1, MOST_GRAMS):
        return [NOT_AS_TOLD]
    return add_one(state.tints, MOST_TINTS, Tint(colour, given[3]))


def remove_tint(state, given):
    return remove_one(state.tints, given[0])


def set_grams(state, given):
    number = given[0]
    if number >= len(state.tints):
        return [NONE_SUCH]
    if not within(given[1], 1, MOST_GRAMS):
        return [NOT_AS_TOLD]
    tint = state.tints[number]
    state.tints[number] = Tint(tint.colour, given[1])
    return [tint.grams]


def tell_makes(state, given):
    colour = tuple(given)
    if not is_colour(colour):
        return [NOT_AS_TOLD]
    return [1] if can_make(dye_parts(state), colour) else [0]


def tell_least(state, given):
    colour = tuple(given)
    if not is_colour(colour):
        return [NOT_AS_TOLD]
    prices = [dye.price for dye in state.dyes]
    mix = cheapest(dye_parts(state), prices, colour)
    if mix is None:
        return [CANNOT]
    answer = [len(mix.members)] + lowest(share_cost(mix, prices), mix.whole)
    for number, amount in zip(mix.members, mix.shares):
        answer.append(number)
        answer.extend(lowest(amount, mix.whole))
    return answer


def tell_shows(state, given):
    colour = tuple(given)
    if not is_colour(colour):
        return [NOT_AS_TOLD]
    light = light_told(dye_parts(state), colour)
    if light is None:
        return [CANNOT]
    return [0] + list(light) + [looks(light, colour)]


def tell_needed(state, given):
    colour = tuple(given)
    if not is_colour(colour):
        return [NOT_AS_TOLD]
    dyes = dye_parts(state)
    if not can_make(dyes, colour):
        return [CANNOT]
    return counted([number for number in range(len(dyes)) if not can_make(all_but(dyes, number), colour)])


def tell_idle(state, given):
    dyes = dye_parts(state)
    return counted([number for number, parts in enumerate(dyes) if can_make(all_but(dyes, number), parts)])


def tell_lacking(state, given):
    dyes = dye_parts(state)
    return counted([number for number, tint in enumerate(state.tints) if not can_make(dyes, tint.colour)])


def tell_centimetre(state, given):
    cost = centimetre_cost(state.dyes, state.tints)
    return [CANNOT] if cost is None else [0] + cost


def look_at_dye(state, given):
    if given[0] >= len(state.dyes):
        return [NONE_SUCH]
    dye = state.dyes[given[0]]
    return [dye.price] + list(dye.parts)


def look_at_tint(state, given):
    if given[0] >= len(state.tints):
        return [NONE_SUCH]
    tint = state.tints[given[0]]
    return [tint.grams] + list(tint.colour)


DYE_CALLS = {
    1: add_dye,
    2: remove_dye,
    3: set_price,
    4: add_tint,
    5: remove_tint,
    6: set_grams,
    18: tell_makes,
    19: tell_least,
    20: tell_shows,
    21: tell_needed,
    22: tell_idle,
    23: tell_lacking,
    24: tell_centimetre,
    42: look_at_dye,
    43: look_at_tint,
}
