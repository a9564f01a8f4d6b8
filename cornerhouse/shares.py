"""Whether a goal is a sum of makers, each none or more times; and what shows it, either way.

All are tuples of one size. As many of the makers as can be, none made of the others, stand in a base, and units fill
what these leave out. To each of the base belongs a gauge: its product with that one is above nought, with all
others of the base nought. So the gauges tell how often a tuple takes each of the base.
"""

from cornerhouse.cones import levelled, unit
from cornerhouse.flat import as_point, flat_rows
from cornerhouse.whole import lowest, opposite, product


def turned(gauges, spot, comer):
    """The gauges of the base in which the comer stands at the spot."""
    gauge = gauges[spot] if product(gauges[spot], comer) > 0 else opposite(gauges[spot])
    return [gauge if at == spot else levelled(other, gauge, comer) for at, other in enumerate(gauges)]


def unit_spot(base, gauges, numbers):
    """A spot of the base where a unit stands that the numbers take, None where there is none."""
    for spot, place in enumerate(base):
        if place is None and product(gauges[spot], numbers) != 0:
            return spot
    return None


def first_base(makers, size):
    """A base, as a list of the places of its makers, None for a unit; and its gauges."""
    base = [None] * size
    gauges = [unit(size, spot) for spot in range(size)]
    for place, maker in enumerate(makers):
        spot = unit_spot(base, gauges, maker)
        if spot is not None:
            gauges = turned(gauges, spot, maker)
            base[spot] = place
    return base, gauges


def owed_spot(base, gauges, goal):
    """The spot of the first maker that the goal takes less often than not at all, None where there is none."""
    owed = [(place, spot) for spot, place in enumerate(base)
            if place is not None and product(gauges[spot], goal) < 0]
    if not owed:
        return None
    place, spot = min(owed)
    return spot


def first_below(makers, gauge):
    """The place of the first maker whose product with the gauge is below nought, None where there is none."""
    for place, maker in enumerate(makers):
        if product(maker, gauge) < 0:
            return place
    return None


def weighed(makers, base, gauges, goal):
    """A weight for each maker, and a scale: the makers, each its weight times, are the goal the scale times."""
    scale = 1
    for gauge, place in zip(gauges, base):
        if place is not None:
            scale = scale * product(gauge, makers[place])
    weights = [0] * len(makers)
    for gauge, place in zip(gauges, base):
        if place is not None:
            weights[place] = product(gauge, goal) * scale // product(gauge, makers[place])
    return lowest_weights(weights, scale)


def lowest_weights(weights, scale):
    """Weights and scale, divided by the greatest number that divides all of them."""
    told = lowest(weights + [scale])
    return list(told[:-1]), told[-1]


def shares(makers, goal):
    """A pair ((weights, scale), None) where the makers make the goal, else (None, gauge).

    That gauge's product with no maker is below nought, but with the goal it is. It is in lowest terms.
    """
    base, gauges = first_base(makers, len(goal))
    spot = unit_spot(base, gauges, goal)
    if spot is not None:
        # No maker takes this unit, so its gauge is level with all of them.
        gauge = gauges[spot]
        return None, (gauge if product(gauge, goal) < 0 else opposite(gauge))
    spot = owed_spot(base, gauges, goal)
    while spot is not None:
        # The first maker goes and the first one comes: with any other choice a base could come up again and again.
        place = first_below(makers, gauges[spot])
        if place is None:
            return None, gauges[spot]
        gauges = turned(gauges, spot, makers[place])
        base[spot] = place
        spot = owed_spot(base, gauges, goal)
    return weighed(makers, base, gauges, goal), None


def point_or_weights(dim, rows):
    """A pair (point, None) with a point that holds all rows, else (None, weights).

    The weights are one for each row: the sum of all a, each its weight times, is all noughts, that of all b above.
    """
    found, gauge = shares(flat_rows(rows), opposite(unit(dim + 1, dim)))
    if found is None:
        return as_point(gauge), None
    weights, scale = found
    return None, weights
