"""What a rope is, what a stand of a house and a rope is, and where the bits of a rope lie."""

from ropewarren.houses import is_place
from ropewarren.places import place_on
from ropewarren.plans import Plan, gap_of, place_along, row_of
from ropewarren.tuples import are_rising_pairs, is_tuple_of
from ropewarren.wholes import KNOTS, REACH, WIDE, is_within


def is_rope(thing):
    """Tell whether anything is a rope: a tuple (length, knots)."""
    if not is_tuple_of(thing, 2) or not is_within(thing[0], 1, REACH):
        return False
    length, knots = thing
    if not are_rising_pairs(knots, 0, length) or len(knots) > KNOTS:
        return False
    return all([is_within(size, 1, WIDE) for behind, size in knots])


def is_stand(house, rope, thing):
    """Tell whether anything is a stand (tail, head) of the house and the rope."""
    return is_stand_in(Plan(house), rope, thing)


def is_stand_in(plan, rope, thing):
    """Tell whether anything is a stand of the plan's house and the rope."""
    if not is_tuple_of(thing, 2):
        return False
    tail, head = thing
    if not is_place(plan.built, tail) or not is_place(plan.built, head):
        return False
    return gap_of(plan, tail, head) == rope[0] and knots_fit(plan, rope, row_of(plan, head, tail))


def knots_fit(plan, rope, pieces):
    """Tell whether no knot lies at a place narrower than it, of a rope on the row from its head to its tail."""
    for behind, size in rope[1]:
        if is_narrower(plan, place_along(plan, pieces, behind), size):
            return False
    return True


def is_narrower(plan, place, size):
    """Tell whether a place is too narrow for a knot of that size."""
    if len(place) == 1:
        return False
    narrows = plan.pipes[place[0]][3]
    return any([at == place[1] and width < size for at, width in narrows])


def bit_at(house, stand, bit):
    """Tell the place where a bit of the rope lies: so many steps from the head towards the tail."""
    tail, head = stand
    return place_on(house, head, tail, bit)
