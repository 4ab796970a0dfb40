"""Lots: all stands that lead to one another, of ropes without knots in houses without flaps, and their names.

Let one and other be two rooms as far apart as any. Where that is at least
twice the rope's length, the rope can be drawn from its place whole behind
room one on towards room other, and so the other way about. With three long
arms at some place that is one and the same lot, and it turns; without, it is
two that run, and all places with two long arms lie on the row from one to
other, as all else that hangs on it is less deep than the rope is long.
"""

from ropewarren.comes import how_many, row_under_all
from ropewarren.depths import longest_turning, refuse_flaps
from ropewarren.plans import Plan, at_along, place_at, place_between
from ropewarren.searches import all_runs


def lot_of(house, length, stand):
    """Tell the name of a stand's lot."""
    refuse_flaps(house)
    plan = Plan(house)
    stands = all_runs(plan, (length, ()), stand)[0]
    return name_of(plan, marks_of(plan, length), stands)


def lots(house, length):
    """Tell the names of all lots, each with how many stands it has, rising."""
    refuse_flaps(house)
    plan = Plan(house)
    marks = marks_of(plan, length)
    found = {}
    rows = []
    for start in stands_from_rooms(plan, length):
        if start not in found:
            stands, runs = all_runs(plan, (length, ()), start)
            for stand in stands:
                found[stand] = True
            rows.append((name_of(plan, marks, stands), how_many(stands, runs)))
    return tuple(sorted(rows))


def stands_in(house, length):
    """Tell how many stands there are in all."""
    return sum([count for name, count in lots(house, length)])


def stands_from_rooms(plan, length):
    """Tell all stands with the tail at a room: each lot has one, as each rope's tail can be drawn on to a room."""
    stands = []
    for room in range(len(plan.doors)):
        stands.extend([((room,), head) for head in places_around(plan, room, length)])
    return stands


def places_around(plan, room, steps):
    """Tell all places so many steps, one or more, from a room."""
    places = []
    for near in plan.gaps[room]:
        left = steps - plan.gaps[room][near]
        for pipe, at, beyond, far in plan.doors[near]:
            if plan.gaps[room][beyond] > plan.gaps[room][near] and 0 < left <= abs(far - at):
                places.append(place_at(plan, pipe, at_along((pipe, at, far), left)))
    return places


def marks_of(plan, length):
    """Tell the names of the lots that turn or run, each under one stand of the lot, with its tail at a room."""
    gap, one, other = furthest_rooms(plan)
    if gap < 2 * length:
        return {}
    forth = ((one,), place_between(plan, (one,), (other,), length))
    if longest_turning(plan) >= length:
        return {forth: ("turns",)}
    back = ((other,), place_between(plan, (other,), (one,), length))
    low = place_between(plan, (one,), (other,), length - 1)
    high = place_between(plan, (other,), (one,), length - 1)
    return {forth: ("runs", low, high), back: ("runs", high, low)}


def furthest_rooms(plan):
    """Tell (gap, one, other) of two rooms that are as far apart as any."""
    return max([(gaps[other], one, other) for one, gaps in enumerate(plan.gaps) for other in gaps])


def name_of(plan, marks, stands):
    """Tell the name of a lot of which these are all stands with an end at a room, and perhaps others."""
    for stand in marks:
        if stand in stands:
            return marks[stand]
    first, last = row_under_all(plan, stands[0], stands)
    return ("core", first, last)
