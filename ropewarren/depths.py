"""Arms and depths, and the longest rope that can be turned about."""

from ropewarren.errors import Flapped
from ropewarren.plans import Plan, gap_of, places_beside


def depth(house, place, beside):
    """Tell the depth of the arm that hangs on a place by a place next to it."""
    return arm_depth(Plan(house), place, beside)


def arm_depth(plan, place, beside):
    """Tell the greatest distance from a place to any place of the arm by one next to it.

    Some room of the arm lies that far: each arm ends in rooms.
    """
    deepest = 0
    for room in range(len(plan.doors)):
        gap = gap_of(plan, place, (room,))
        if gap_of(plan, beside, (room,)) < gap:
            deepest = max(deepest, gap)
    return deepest


def long_arms(house, length, place):
    """Tell the places next to one by which arms hang that are long for a rope of that length, rising."""
    plan = Plan(house)
    return tuple([beside for beside in places_beside(plan, place) if arm_depth(plan, place, beside) >= length])


def longest(house):
    """Tell the length of the longest rope for which a lot turns, 0 where there is none."""
    refuse_flaps(house)
    return longest_turning(Plan(house))


def refuse_flaps(house):
    """Refuse a house with flaps."""
    if any([pipe[4] for pipe in house[1]]):
        raise Flapped()


def longest_turning(plan):
    """Tell the length of the longest rope to which some room has three long arms, 0 where there is none."""
    return max([third_depth(plan, room) for room in range(len(plan.doors))])


def third_depth(plan, room):
    """Tell the third greatest depth of a room's arms, 0 where it has fewer: a rope turns where three are long."""
    place = (room,)
    depths = sorted([arm_depth(plan, place, beside) for beside in places_beside(plan, place)], reverse=True)
    return depths[2] if len(depths) > 2 else 0
