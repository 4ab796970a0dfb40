"""Parts of a rope: ropes by themselves, and how the whole one drags them along."""

from ropewarren.errors import NoPart
from ropewarren.plans import Plan, gap_of, place_between
from ropewarren.pulls import leg_done
from ropewarren.wholes import is_within


def part(rope, first, last):
    """Tell the part of a rope from bit first to bit last, a rope by itself."""
    length, knots = rope
    refuse_no_part(length, first, last)
    kept = [(behind - first, size) for behind, size in knots if first <= behind <= last]
    return (last - first, tuple(kept))


def refuse_no_part(length, first, last):
    """Refuse anything but two bits of a rope of that length, first ahead of last."""
    if not is_within(first, 0, length) or not is_within(last, first + 1, length):
        raise NoPart(first, last)


def part_stand(house, stand, first, last):
    """Tell where a part lies when the whole rope lies at a stand."""
    plan = Plan(house)
    refuse_no_part(gap_of(plan, stand[0], stand[1]), first, last)
    return part_lain(plan, stand, first, last)


def part_lain(plan, stand, first, last):
    """Tell where the part from bit first to bit last lies."""
    tail, head = stand
    return (place_between(plan, head, tail, last), place_between(plan, head, tail, first))


def part_way(house, rope, start, way, first, last):
    """Tell the part's way when the whole rope goes a way: as many legs, of the same ends."""
    refuse_no_part(rope[0], first, last)
    plan = Plan(house)
    stand = start
    legs = []
    for end, place in way:
        stand = leg_done(plan, rope, stand, end, place)[0]
        legs.append((end, part_lain(plan, stand, first, last)[end]))
    return tuple(legs)
