"""Knots tied into a rope and untied, and ropes trimmed."""

from ropewarren.errors import Full, NoBit, NoBy, NoEnd, NoKnot, NoSize, Twice
from ropewarren.parts import part, part_lain
from ropewarren.wholes import HEAD, KNOTS, TAIL, WIDE, is_within


def tied(rope, behind, size):
    """Tell the rope with one more knot, of anything as behind and size."""
    length, knots = rope
    if not is_within(behind, 0, length):
        raise NoBit(behind)
    if not is_within(size, 1, WIDE):
        raise NoSize(size)
    if any([knot[0] == behind for knot in knots]):
        raise Twice(behind)
    if len(knots) >= KNOTS:
        raise Full("knots")
    return (length, tuple(sorted(knots + ((behind, size),))))


def untied(rope, gone):
    """Tell a rope without the knots of these numbers."""
    length, knots = rope
    return (length, tuple([knot for number, knot in enumerate(knots) if number not in gone]))


def refuse_no_knot(rope, knot):
    """Refuse anything that is no knot's number."""
    if not is_within(knot, 0, len(rope[1]) - 1):
        raise NoKnot(knot)


def trimmed(plan, rope, stand, end, by):
    """Tell (rope, stand): a rope shorter at an end, and where it lies, of anything as end and by."""
    length = rope[0]
    if not is_within(end, TAIL, HEAD):
        raise NoEnd(end)
    if not is_within(by, 1, length - 1):
        raise NoBy(by)
    first = by if end == HEAD else 0
    last = length if end == HEAD else length - by
    return part(rope, first, last), part_lain(plan, stand, first, last)
