"""What is least: how wide, how short, how few knots and flaps it takes that there is a way."""

from ropewarren.knots import untied
from ropewarren.parts import part, part_stand
from ropewarren.plans import Plan
from ropewarren.searches import leads_to


def least_width(house, rope, start, wish):
    """Tell the least width to which all narrower places must be widened, 0 for none, None where that doesn't do.

    A width between two sizes of knots lets by just what the lower one does.
    """
    if leads_to(Plan(house), rope, start, wish):
        return 0
    for width in sorted(set([size for behind, size in rope[1]])):
        if leads_to(Plan(widened(house, width)), rope, start, wish):
            return width
    return None


def widened(house, least):
    """Tell a house with all narrower places at least that wide."""
    rooms, pipes = house
    rows = []
    for one, other, length, narrows, flaps in pipes:
        wide = tuple([(at, max(width, least)) for at, width in narrows])
        rows.append((one, other, length, wide, flaps))
    return (rooms, tuple(rows))


def longest_part(house, rope, start, wish):
    """Tell the greatest length of a part from the head on that has a way, 0 where none has.

    What a part can do each part of it can do, so the lengths with a way are
    all up to the greatest one, which is hemmed in by halves.
    """
    plan = Plan(house)
    low = 0
    high = rope[0]
    while low < high:
        middle = (low + high + 1) // 2
        here = part_stand(house, start, 0, middle)
        there = part_stand(house, wish, 0, middle)
        if leads_to(plan, part(rope, 0, middle), here, there):
            low = middle
        else:
            high = middle - 1
    return low


def fewest_untied(house, rope, start, wish):
    """Tell the fewest knots that must be untied so that there is a way, None where none at all would do."""
    plan = Plan(house)
    for gone in choices(list(range(len(rope[1])))):
        if leads_to(plan, untied(rope, gone), start, wish):
            return gone
    return None


def fewest_taken(house, rope, start, wish):
    """Tell the fewest flaps (pipe, at) that must be taken so that there is a way, None where none at all would do."""
    for gone in choices(flaps_of(house)):
        if leads_to(Plan(without_flaps(house, gone)), rope, start, wish):
            return gone
    return None


def flaps_of(house):
    """Tell all flaps (pipe, at) of a house, rising."""
    return [(number, at) for number, pipe in enumerate(house[1]) for at, way in pipe[4]]


def without_flaps(house, gone):
    """Tell a house without these flaps."""
    rooms, pipes = house
    rows = []
    for number, (one, other, length, narrows, flaps) in enumerate(pipes):
        kept = tuple([(at, way) for at, way in flaps if (number, at) not in gone])
        rows.append((one, other, length, narrows, kept))
    return (rooms, tuple(rows))


def choices(things):
    """Tell all choices from rising things, as rising tuples: fewer ahead of more, those of like many rising."""
    found = [()]
    layer = [()]
    while layer:
        layer = [choice + (thing,) for choice in layer for thing in things if not choice or choice[-1] < thing]
        found.extend(layer)
    return found
