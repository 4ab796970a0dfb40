"""Verdicts: a way of the fewest steps, or a table that bars the wish."""

from ropewarren.errors import Barred
from ropewarren.plans import Plan
from ropewarren.pulls import way_steps
from ropewarren.searches import fewest_steps, joined, legs_back
from ropewarren.tables import held_heights
from ropewarren.tuples import is_tuple_of

WAY = "way"
BAR = "bar"


def verdict(house, rope, start, wish):
    """Tell ("way", way, table), some way of the fewest steps, or ("bar", table), a table without the wish."""
    heights, before = fewest_steps(Plan(house), rope, start, wish)
    if wish in heights:
        return (WAY, joined(legs_back(before, wish)[1]), table_of(heights))
    return (BAR, table_of(heights))


def table_of(heights):
    """Tell the table in which stands have these heights."""
    return tuple(sorted([(stand[0], stand[1], heights[stand]) for stand in heights]))


def verdict_holds(house, rope, start, wish, thing):
    """Tell whether anything is a verdict: a way and a table with the wish at its steps, or a table without it."""
    plan = Plan(house)
    if is_tuple_of(thing, 3) and thing[0] == WAY:
        steps = way_steps(plan, rope, start, wish, thing[1])
        heights = held_heights(plan, rope, start, wish, thing[2])
        return steps is not None and heights is not None and heights.get(wish) == steps
    if is_tuple_of(thing, 2) and thing[0] == BAR:
        heights = held_heights(plan, rope, start, wish, thing[1])
        return heights is not None and wish not in heights
    return False


def distance(house, rope, start, wish):
    """Tell the fewest steps from start to wish."""
    heights, before = fewest_steps(Plan(house), rope, start, wish)
    if wish not in heights:
        raise Barred(table_of(heights))
    return heights[wish]
