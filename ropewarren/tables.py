"""Tables: papers that show what can't be come to, and in how few steps nothing can."""

from ropewarren.plans import Plan
from ropewarren.ropes import is_stand_in
from ropewarren.runs import runs_of
from ropewarren.tuples import is_tuple_of
from ropewarren.wholes import is_whole


def table_holds(house, rope, start, wish, thing):
    """Tell whether anything is a table for a start and a wish."""
    return held_heights(Plan(house), rope, start, wish, thing) is not None


def held_heights(plan, rope, start, wish, thing):
    """Tell the height of each stand of anything that is a table; None where it is none."""
    heights = heights_of(plan, rope, thing)
    if heights is None or heights.get(start) != 0:
        return None
    for stand in heights:
        if not has_its_halts(plan, rope, stand, wish, heights):
            return None
    return heights


def heights_of(plan, rope, thing):
    """Tell the height of each stand of anything that is a rising tuple of rows, none twice; None where it is none."""
    if not isinstance(thing, tuple):
        return None
    heights = {}
    before = ()
    for row in thing:
        if not is_row(plan, rope, row) or row <= before or row[:2] in heights:
            return None
        heights[row[:2]] = row[2]
        before = row
    return heights


def is_row(plan, rope, thing):
    """Tell whether anything is (tail, head, height), a stand and a whole number from 0 on."""
    if not is_tuple_of(thing, 3) or not is_whole(thing[2]) or thing[2] < 0:
        return False
    return is_stand_in(plan, rope, thing[:2])


def has_its_halts(plan, rope, stand, wish, heights):
    """Tell whether each halt of a stand has a height of at most the stand's and the steps to it together."""
    for end, halt, steps, lead, trail in runs_of(plan, rope, stand, wish):
        if halt not in heights or heights[halt] > heights[stand] + steps:
            return False
    return True
