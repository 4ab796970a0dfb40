"""Sights: the head was seen at places one behind another.

A sight is a stand with the head at such a place. Few stands have their head
at a place, so of each of these the fewest steps and the legs by which it is
come to, with all places ahead of it seen in their order, are kept.
"""

from ropewarren.errors import Unseen
from ropewarren.plans import Plan, at_along, place_at
from ropewarren.pulls import stand_with
from ropewarren.runs import runs_of, steps_to
from ropewarren.searches import joined, legs_back, spread
from ropewarren.wholes import HEAD


def seen(house, rope, start, places):
    """Tell the fewest steps of a way on which the head comes to these places, one behind another."""
    return best_sight(house, rope, start, places)[0]


def seen_way(house, rope, start, places):
    """Tell a way of the fewest steps on which the head comes to these places, one behind another."""
    return joined(best_sight(house, rope, start, places)[1])


def best_sight(house, rope, start, places):
    """Tell (steps, legs) of a way of the fewest steps on which the head comes to these places."""
    plan = Plan(house)
    sights = {start: (0, [])}
    for number, place in enumerate(places):
        sights = next_sights(plan, rope, sights, place)
        if not sights:
            raise Unseen(number)
    return min(list(sights.values()))


def next_sights(plan, rope, sights, place):
    """Tell (steps, legs) of each stand with the head at a place that can be come to from former sights."""
    starts = {stand: sights[stand][0] for stand in sights}
    wish = list(starts)[0]
    heights, before = spread(plan, rope, starts, wish)
    found = {}
    for stand in heights:
        if stand[HEAD] == place:
            keep_best(found, stand, (heights[stand], stand, []))
        for run in runs_of(plan, rope, stand, wish):
            steps, sight = sight_within(plan, run, place)
            if steps > 0:
                end = run[0]
                keep_best(found, sight, (heights[stand] + steps, stand, [(end, sight[end])]))
    return {sight: (found[sight][0], legs_to(sights, before, found[sight])) for sight in found}


def sight_within(plan, run, place):
    """Tell (steps, stand) of the stand midway in a run with the head at a place, 0 steps if there is none."""
    end, halt, many, lead, trail = run
    steps = steps_to(lead if end == HEAD else trail, place)
    led = place_at(plan, lead[0], at_along(lead, steps))
    dragged = place_at(plan, trail[0], at_along(trail, steps))
    return steps, stand_with(end, led, dragged)


def keep_best(found, sight, row):
    """Keep a row (steps, halt, legs) of a sight, unless one of no more steps is kept."""
    if sight not in found or row[0] < found[sight][0]:
        found[sight] = row


def legs_to(sights, before, row):
    """Tell all legs to a sight: to the former one, from there to a halt, and from the halt on."""
    former, legs = legs_back(before, row[1])
    return sights[former][1] + legs + row[2]
