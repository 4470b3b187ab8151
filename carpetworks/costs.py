"""What the carpet costs."""

from carpetworks.colours import cheapest
from carpetworks.colours import share_cost
from carpetworks.cutting import least_need
from carpetworks.laying import all_strips
from carpetworks.ratios import lowest


# What a centimetre costs, a fraction, or None where a tint's colour can't be made.
def centimetre_cost(dyes, tints):
    parts = [dye.parts for dye in dyes]
    prices = [dye.price for dye in dyes]
    upper = 0
    lower = 1
    for tint in tints:
        mix = cheapest(parts, prices, tint.colour)
        if mix is None:
            return None
        upper = upper * mix.whole + tint.grams * share_cost(mix, prices) * lower
        lower = lower * mix.whole
    return lowest(upper, lower)


# What all costs with these dyes, a fraction, or None where it can't be laid or made.
def total_cost(state, dyes):
    strips = all_strips(state.rooms, state)
    cost = centimetre_cost(dyes, state.tints)
    if strips is None or cost is None:
        return None
    return lowest(least_need(strips, state.repeat) * cost[0], cost[1])
