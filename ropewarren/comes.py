"""All that can be come to from a stand: how many stands, where the ends come to, what always lies under the rope."""

from ropewarren.plans import Plan, at_along, gap_of, is_on_row, place_between
from ropewarren.runs import runs_of
from ropewarren.searches import all_runs
from ropewarren.wholes import HEAD, TAIL


def come(house, rope, start):
    """Tell how many stands can be come to from one, itself counted in."""
    stands, runs = all_runs(Plan(house), rope, start)
    return how_many(stands, runs)


def how_many(stands, runs):
    """Tell how many stands there are among halts and within the runs between them."""
    stretches = []
    for stand in stands:
        if not is_at_room(stand):
            stretches.append((family_of(stand), stand[1][1], stand[1][1]))
    for run in runs:
        if run[2] > 1:
            stretches.append(midway_stretch(run))
    at_rooms = [stand for stand in stands if is_at_room(stand)]
    return len(at_rooms) + sum([high - low + 1 for family, low, high in merged(stretches)])


def is_at_room(stand):
    """Tell whether either end is at a room."""
    return len(stand[0]) == 1 or len(stand[1]) == 1


def family_of(stand):
    """Tell the family of a stand with no end at a room: in each one the head's at tells the stand.

    In one pipe the tail may lie on either side of the head.
    """
    tail, head = stand
    return (tail[0], head[0], tail[0] == head[0] and tail[1] < head[1])


def midway_stretch(run):
    """Tell (family, low, high) of the stands within a run of two steps or more: no end is at a room there."""
    behind = end_piece(run, TAIL)
    ahead = end_piece(run, HEAD)
    one = at_along(ahead, 1)
    other = at_along(ahead, run[2] - 1)
    family = family_of(((behind[0], at_along(behind, 1)), (ahead[0], one)))
    return (family, min(one, other), max(one, other))


def end_piece(run, end):
    """Tell the piece along which an end goes in a run."""
    return run[3] if run[0] == end else run[4]


def merged(stretches):
    """Tell the longest stretches (kind, low, high) that stretches make together, rising."""
    rows = []
    for kind, low, high in sorted(stretches):
        if rows and rows[-1][0] == kind and low <= rows[-1][2] + 1:
            rows[-1] = (kind, rows[-1][1], max(rows[-1][2], high))
        else:
            rows.append((kind, low, high))
    return rows


def heads(house, rope, start):
    """Tell where the head can come to: the longest stretches (pipe, low, high), rising."""
    return end_stretches(Plan(house), rope, start, HEAD)


def tails(house, rope, start):
    """Tell where the tail can come to: the longest stretches (pipe, low, high), rising."""
    return end_stretches(Plan(house), rope, start, TAIL)


def end_stretches(plan, rope, start, end):
    """Tell where an end can come to."""
    stands, runs = all_runs(plan, rope, start)
    stretches = []
    for stand in stands:
        stretches.extend(spots_of(plan, stand[end]))
    for run in runs:
        pipe, begin, stop = end_piece(run, end)
        stretches.append((pipe, min(begin, stop), max(begin, stop)))
    return tuple(merged(stretches))


def spots_of(plan, place):
    """Tell a place as stretches, a room in each of its pipes."""
    if len(place) == 1:
        return [(door[0], door[1], door[1]) for door in plan.doors[place[0]]]
    return [(place[0], place[1], place[1])]


def is_stuck(house, rope, stand):
    """Tell whether no step is let."""
    return not runs_of(Plan(house), rope, stand, stand)


def under_always(house, rope, start):
    """Tell the ends (first, last) of the places under the rope in all stands that can be come to, None for none.

    Between two halts all stands of a run lie over what both of these lie over,
    so halts are enough.
    """
    plan = Plan(house)
    return row_under_all(plan, start, all_runs(plan, rope, start)[0])


def row_under_all(plan, start, stands):
    """Tell the part of the row under the rope at the start that lies under it in all these stands, None for none."""
    row = start
    for stand in stands:
        row = common_row(plan, row, stand)
        if row is None:
            return None
    return row


def common_row(plan, row, stand):
    """Tell the part of a row that lies under the rope of a stand, None for none."""
    first, last = row
    feet = sorted([foot_of(plan, row, stand[0]), foot_of(plan, row, stand[1])])
    begin = place_between(plan, first, last, feet[0])
    stop = place_between(plan, first, last, feet[1])
    if begin == stop and not is_on_row(plan, stand[0], stand[1], begin):
        return None
    return (begin, stop)


def foot_of(plan, row, place):
    """Tell how many steps from where a row begins the place of it lies that is nearest to a place."""
    first, last = row
    return (gap_of(plan, first, place) + gap_of(plan, first, last) - gap_of(plan, last, place)) // 2
