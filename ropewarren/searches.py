"""All that can be come to from a start, gone through from halt to halt."""

from ropewarren.runs import runs_of


def fewest_steps(plan, rope, start, wish):
    """Tell (heights, before) of all halts that can be come to, and the start.

    heights has the fewest steps to each; before has, but for the start, the
    (stand, end) from which, and by which end, each is come to in so few.
    """
    heights = {start: 0}
    before = {}
    waiting = [(0, start)]
    while waiting:
        height, stand = waiting.pop()
        # A row of a stand that was come to by fewer steps in the meantime has nothing more to tell.
        if height == heights[stand]:
            for end, halt, steps, lead, trail in runs_of(plan, rope, stand, wish):
                if halt not in heights or height + steps < heights[halt]:
                    heights[halt] = height + steps
                    before[halt] = (stand, end)
                    put_in(waiting, (height + steps, halt))
    return heights, before


def put_in(waiting, row):
    """Put a row into a falling list, so that the least one stays last."""
    low = 0
    high = len(waiting)
    while low < high:
        middle = (low + high) // 2
        if waiting[middle] > row:
            low = middle + 1
        else:
            high = middle
    waiting.insert(low, row)


def all_runs(plan, rope, start):
    """Tell (stands, runs): the start and all halts that can be come to from it, and all runs between them."""
    found = {start: True}
    runs = []
    todo = [start]
    while todo:
        stand = todo.pop()
        for run in runs_of(plan, rope, stand, start):
            runs.append(run)
            if run[1] not in found:
                found[run[1]] = True
                todo.append(run[1])
    return list(found), runs
