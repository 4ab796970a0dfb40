"""All that can be come to, gone through from halt to halt, and the legs by which it is come to."""

from ropewarren.runs import runs_of


def fewest_steps(plan, rope, start, wish):
    """Tell (heights, before) of all halts that can be come to, and the start, as spread tells them."""
    return spread(plan, rope, {start: 0}, wish)


def spread(plan, rope, starts, wish):
    """Tell (heights, before) of all halts that can be come to from starts, which have heights, and the starts.

    heights has the least height of each, steps and start's height together;
    before has, of those that are come to from others, the (stand, end) from
    which, and by which end, each is come to in so few.
    """
    heights = {start: starts[start] for start in starts}
    before = {}
    waiting = sorted([(starts[start], start) for start in starts], reverse=True)
    while waiting:
        height, stand = waiting.pop()
        # A row of a stand that was come to by fewer steps in the meantime has nothing more to tell.
        if height == heights[stand]:
            for end, halt, steps, lead, trail in runs_of(plan, rope, stand, wish):
                if halt not in heights or height + steps < heights[halt]:
                    heights[halt] = height + steps
                    before[halt] = (stand, end)
                    put_in(waiting, (height + steps, halt))
    return heights, before


def put_in(waiting, row):
    """Put a row into a falling list, so that the least one stays last."""
    low = 0
    high = len(waiting)
    while low < high:
        middle = (low + high) // 2
        if waiting[middle] > row:
            low = middle + 1
        else:
            high = middle
    waiting.insert(low, row)


def legs_back(before, stand):
    """Tell (start, legs): the start from which a stand was come to, and a leg for each halt on the way."""
    legs = []
    here = stand
    while here in before:
        earlier, end = before[here]
        legs.append((end, here[end]))
        here = earlier
    return here, legs[::-1]


def joined(legs):
    """Tell a way of legs that lead on: an end that is pulled on by the next leg, too, needs that one alone."""
    way = []
    for leg in legs:
        if way and way[-1][0] == leg[0]:
            way.pop()
        way.append(leg)
    return tuple(way)


def leads_to(plan, rope, start, wish):
    """Tell whether there is a way from start to wish."""
    return wish in fewest_steps(plan, rope, start, wish)[0]


def all_runs(plan, rope, start):
    """Tell (stands, runs): the start and all halts that can be come to from it, and all runs between them."""
    found = {start: True}
    runs = []
    todo = [start]
    while todo:
        stand = todo.pop()
        for run in runs_of(plan, rope, stand, start):
            runs.append(run)
            if run[1] not in found:
                found[run[1]] = True
                todo.append(run[1])
    return list(found), runs
