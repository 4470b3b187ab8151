"""The calls on all rooms together: their strips, what they need, their rolls and what they cost."""

from carpetworks.costs import total_cost
from carpetworks.cutting import best_order
from carpetworks.cutting import least_need
from carpetworks.cutting import order_need
from carpetworks.dye_calls import MOST_DYES
from carpetworks.dye_calls import is_dye
from carpetworks.giving import first_way
from carpetworks.giving import most_that_fit
from carpetworks.giving import size_of
from carpetworks.giving import spare_of
from carpetworks.keeping import CANNOT
from carpetworks.keeping import FULL
from carpetworks.keeping import NONE_SUCH
from carpetworks.keeping import NOT_AS_TOLD
from carpetworks.keeping import NO_ROLLS
from carpetworks.keeping import all_but
from carpetworks.keeping import counted
from carpetworks.keeping import goes_into
from carpetworks.laying import all_strips
from carpetworks.laying import strip_rows
from carpetworks.state import Dye


def tell_all(state, given):
    strips = all_strips(state.rooms, state)
    if strips is None:
        return [CANNOT]
    return strip_rows(strips)


def tell_need(state, given):
    strips = all_strips(state.rooms, state)
    if strips is None:
        return [CANNOT]
    return [least_need(strips, state.repeat)] + best_order(strips, state.repeat)


def tell_order(state, given):
    strips = all_strips(state.rooms, state)
    if strips is None:
        return [CANNOT]
    if sorted(given) != list(range(len(strips))):
        return [NOT_AS_TOLD]
    need = order_need([strips[number] for number in given], state.repeat)
    return [need, need - sum([strip.length for strip in strips])]


def tell_finer(state, given):
    repeat = given[0]
    if not goes_into(repeat, state.repeat):
        return [NOT_AS_TOLD]
    strips = all_strips(state.rooms, state)
    if strips is None:
        return [CANNOT]
    # Where a strip begins counts by what's left by the repeat alone, and the new one goes into the old one.
    return [least_need(strips, repeat)]


def tell_fits(state, given):
    if len(state.rolls) == 0:
        return [NO_ROLLS]
    strips = all_strips(state.rooms, state)
    way = None if strips is None else first_way(strips, state.repeat, state.rolls)
    return [CANNOT] if way is None else counted(way)


def tell_spare(state, given):
    fits = tell_fits(state, given)
    if fits[0] < 0:
        return fits
    return counted(spare_of(fits[1:], all_strips(state.rooms, state), state.repeat, state.rolls))


def tell_most(state, given):
    if len(state.rolls) == 0:
        return [NO_ROLLS]
    strips = all_strips(state.rooms, state)
    if strips is None:
        return [CANNOT]
    chosen = most_that_fit(strips, state.repeat, state.rolls)
    return [size_of(chosen), chosen]


def told_cost(cost):
    return [CANNOT] if cost is None else [0] + cost


def tell_total(state, given):
    return told_cost(total_cost(state, state.dyes))


def tell_cheaper(state, given):
    parts = tuple(given[:3])
    if not is_dye(parts, given[3]):
        return [NOT_AS_TOLD]
    if len(state.dyes) >= MOST_DYES:
        return [FULL]
    return told_cost(total_cost(state, state.dyes + [Dye(parts, given[3])]))


def tell_without(state, given):
    if given[0] >= len(state.dyes):
        return [NONE_SUCH]
    return told_cost(total_cost(state, all_but(state.dyes, given[0])))


ALL_CALLS = {
    30: tell_all,
    31: tell_need,
    32: tell_order,
    33: tell_finer,
    35: tell_fits,
    36: tell_spare,
    37: tell_most,
    38: tell_total,
    39: tell_cheaper,
    40: tell_without,
}
