"""Runs: how far each end goes on from a stand, by each place next to it, till it halts.

A run is (end, stand, steps, lead, trail): the end that is pulled, the stand at
which it halts, its steps, and the pieces (pipe, begin, stop) along which the
pulled and the dragged end go. No end comes to a room but at a halt, so each of
them stays in one pipe all along.
"""

from ropewarren.bars import bars_of
from ropewarren.plans import at_along, length_of, place_at, row_of
from ropewarren.pulls import stand_with
from ropewarren.wholes import HEAD, TAIL


def runs_of(plan, rope, stand, wish):
    """Tell all runs from a stand, for a wish."""
    runs = []
    for end in (TAIL, HEAD):
        row = row_of(plan, stand[1 - end], stand[end])
        for lead in leads_of(plan, row, stand[end]):
            run = run_along(plan, rope, end, row, lead, wish)
            if run[2] > 0:
                runs.append(run)
    return runs


def leads_of(plan, row, place):
    """Tell the pieces by which the end at a place, to which a row leads, can go on to a next room."""
    pipe, begin, stop = row[-1]
    if len(place) == 2:
        return [(pipe, stop, plan.pipes[pipe][2] if begin < stop else 0)]
    return [(door[0], door[1], door[3]) for door in plan.doors[place[0]] if door[0] != pipe]


def led_on(row, lead):
    """Tell the pieces of a row led on by one more piece."""
    pipe, begin, stop = row[-1]
    if pipe == lead[0]:
        return row[:-1] + [(pipe, begin, lead[2])]
    return row + [lead]


def run_along(plan, rope, end, row, lead, wish):
    """Tell the run of an end by a lead, perhaps of no steps, where its first step isn't let."""
    pieces = led_on(row, lead)
    trail = pieces[0]
    most = min(length_of(lead), length_of(trail))
    met = steps_to(lead, wish[end])
    if met > 0 and met == steps_to(trail, wish[1 - end]):
        most = min(most, met)
    steps = min([most] + [bar[0] for bar in bars_of(plan, rope, end, pieces, most)])
    led = cut_to(lead, steps)
    dragged = cut_to(trail, steps)
    return (end, stand_with(end, last_place(plan, led), last_place(plan, dragged)), steps, led, dragged)


def steps_to(piece, place):
    """Tell how many steps along a piece a place lies, 0 if it isn't there or is a room."""
    pipe, begin, stop = piece
    if len(place) == 1 or place[0] != pipe:
        return 0
    if begin < place[1] < stop or stop < place[1] < begin:
        return abs(place[1] - begin)
    return 0


def cut_to(piece, steps):
    """Tell the first so many steps of a piece."""
    return (piece[0], piece[1], at_along(piece, steps))


def last_place(plan, piece):
    """Tell the place to which a piece leads."""
    return place_at(plan, piece[0], piece[2])
