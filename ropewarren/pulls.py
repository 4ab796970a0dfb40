"""Legs: one end of the rope is pulled on, the rest follows; and ways, which are made of legs."""

from ropewarren.bars import SHUT, bars_of
from ropewarren.errors import Back, NoEnd, NoPlace, Shut, Stuck, WarrenError
from ropewarren.houses import is_place
from ropewarren.plans import Plan, gap_of, place_along, row_of
from ropewarren.tuples import is_tuple_of
from ropewarren.wholes import HEAD, TAIL, is_within


def pulled(house, rope, stand, end, place):
    """Tell the stand behind a leg, of anything as end and place."""
    return leg_done(Plan(house), rope, stand, end, place)[0]


def leg_done(plan, rope, stand, end, place):
    """Tell (stand, steps): the stand behind a leg, of anything as end and place, and how many steps it has."""
    if not is_within(end, TAIL, HEAD):
        raise NoEnd(end)
    if not is_place(plan.built, place):
        raise NoPlace(place)
    dragged = stand[1 - end]
    steps = gap_of(plan, stand[end], place)
    if steps == 0 or gap_of(plan, dragged, place) != rope[0] + steps:
        raise Back(place)
    pieces = row_of(plan, dragged, place)
    bars = bars_of(plan, rope, end, pieces, steps)
    if bars:
        refuse(min(bars))
    return stand_with(end, place, place_along(plan, pieces, steps)), steps


def stand_with(end, place, dragged):
    """Tell the stand whose one end is at the place, and whose other end is where it was dragged to."""
    return (dragged, place) if end == HEAD else (place, dragged)


def refuse(bar):
    """Refuse a leg for what bars it."""
    if bar[1] == SHUT:
        raise Shut(bar[2], bar[3])
    raise Stuck(bar[2])


def legs_done(plan, rope, start, legs):
    """Tell (stand, steps): the stand behind all legs, one behind another, and how many steps they have together."""
    stand = start
    total = 0
    for end, place in legs:
        stand, steps = leg_done(plan, rope, stand, end, place)
        total += steps
    return stand, total


def way_steps(plan, rope, start, wish, thing):
    """Tell how many steps anything has as a way from start to wish; None where it is none."""
    if not isinstance(thing, tuple) or not all([is_tuple_of(leg, 2) for leg in thing]):
        return None
    try:
        stand, steps = legs_done(plan, rope, start, thing)
    except WarrenError:
        return None
    return steps if stand == wish else None


def way_holds(house, rope, start, wish, thing):
    """Tell whether anything is a way from start to wish."""
    return way_steps(Plan(house), rope, start, wish, thing) is not None


def steps_of(house, rope, start, way):
    """Tell how many steps a way has from a stand."""
    return legs_done(Plan(house), rope, start, way)[1]
