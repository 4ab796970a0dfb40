"""What bars steps of a rope along a straight row: flaps that go against it, and places too narrow for its knots.

All places are counted from where the dragged end lies ahead of the first
step: the pulled end then lies as many steps on as the rope is long. Steps are
counted from 0; behind step k the dragged end lies at k + 1.
"""

from ropewarren.plans import length_of
from ropewarren.wholes import HEAD

# Bars are compared as tuples, so of one step the flaps come ahead of the knots.
SHUT = 0
STUCK = 1


def bars_of(plan, rope, end, pieces, steps):
    """Tell each flap and each knot with the first of so many steps that it bars, if it bars one.

    The rows are (step, SHUT, pipe, at) and (step, STUCK, knot); pieces are the
    row from the dragged end to where the pulled end goes, or beyond.
    """
    knots = knots_from_behind(rope, end)
    bars = []
    gone = 0
    for piece in pieces:
        narrows, flaps = plan.pipes[piece[0]][3:]
        if flaps:
            bars.extend(shut_bars(rope[0], piece, gone, flaps))
        if narrows and knots:
            bars.extend(stuck_bars(knots, piece, gone, narrows))
        gone += length_of(piece)
    return [bar for bar in bars if 0 <= bar[0] < steps]


def knots_from_behind(rope, end):
    """Tell the knots as (ahead, size): so many steps ahead of the dragged end."""
    length, knots = rope
    if end == HEAD:
        return [(length - behind, size) for behind, size in knots]
    return [(behind, size) for behind, size in knots]


def shut_bars(length, piece, gone, flaps):
    """Tell the bars of the flaps in a piece of the row that begins gone steps on.

    A flap bars from the step on by which the rope comes to lie over it, and
    all steps while it lies there.
    """
    pipe, begin, stop = piece
    bars = []
    for at, way in flaps:
        if begin <= at < stop and way == -1:
            bars.append((max(0, gone + at - begin - length), SHUT, pipe, at))
        if stop <= at < begin and way == 1:
            bars.append((max(0, gone + begin - at - 1 - length), SHUT, pipe, at))
    return bars


def stuck_bars(knots, piece, gone, narrows):
    """Tell the bars of the narrow places in a piece of the row that begins gone steps on, if by steps below 0."""
    pipe, begin, stop = piece
    bars = []
    for at, width in narrows:
        if begin <= at <= stop or stop <= at <= begin:
            place = gone + abs(at - begin)
            for number, (ahead, size) in enumerate(knots):
                if size > width:
                    bars.append((place - 1 - ahead, STUCK, number))
    return bars
