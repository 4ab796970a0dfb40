"""A house's plan: what many questions about one house need, reckoned once, and rows of places through the house."""


class Plan:
    """The doors of each room, the distances of all rooms, and for each two rooms the door from one to the other."""

    def __init__(self, house):
        self.built = house
        self.pipes = house[1]
        self.doors = doors_of(house)
        self.gaps = []
        self.towards = []
        for room in range(house[0]):
            gaps, towards = spread_from(self.doors, room)
            self.gaps.append(gaps)
            self.towards.append(towards)


def doors_of(house):
    """Tell of each room its doors (pipe, at, beyond, far): the pipe leads from its at to its far, the room beyond."""
    rooms, pipes = house
    doors = [[] for room in range(rooms)]
    for number, pipe in enumerate(pipes):
        one, other, length = pipe[:3]
        doors[one].append((number, 0, other, length))
        doors[other].append((number, length, one, 0))
    return doors


def spread_from(doors, room):
    """Tell of all rooms the distance from one room, and of all others the door that leads towards it."""
    gaps = {room: 0}
    towards = {}
    todo = [room]
    while todo:
        here = todo.pop()
        for pipe, at, beyond, far in doors[here]:
            if beyond not in gaps:
                gaps[beyond] = gaps[here] + abs(far - at)
                towards[beyond] = (pipe, far, here, at)
                todo.append(beyond)
    return gaps, towards


def place_at(plan, pipe, at):
    """Tell the one name of the place at an at of a pipe, its rooms counted in."""
    one, other, length = plan.pipes[pipe][:3]
    if at == 0:
        return (one,)
    if at == length:
        return (other,)
    return (pipe, at)


def places_beside(plan, place):
    """Tell the places next to one, rising."""
    if len(place) == 1:
        doors = plan.doors[place[0]]
        return tuple(sorted([place_at(plan, door[0], 1 if door[1] == 0 else door[1] - 1) for door in doors]))
    pipe, at = place
    return tuple(sorted([place_at(plan, pipe, at - 1), place_at(plan, pipe, at + 1)]))


def are_in_one_pipe(one, other):
    """Tell whether two places lie between the rooms of the same pipe."""
    return len(one) == 2 and len(other) == 2 and one[0] == other[0]


def exits_of(plan, place):
    """Tell the rooms (room, steps) that a place's pipe leads to; of a room itself alone."""
    if len(place) == 1:
        return [(place[0], 0)]
    one, other, length = plan.pipes[place[0]][:3]
    return [(one, place[1]), (other, length - place[1])]


def shortest(plan, one, other):
    """Tell (steps, near, far) of two places that aren't in one pipe: the row goes from one by near and far to other."""
    return min([
        (begin + plan.gaps[near][far] + end, near, far)
        for near, begin in exits_of(plan, one)
        for far, end in exits_of(plan, other)
    ])


def gap_of(plan, one, other):
    """Tell the distance of two places."""
    if are_in_one_pipe(one, other):
        return abs(one[1] - other[1])
    return shortest(plan, one, other)[0]


def is_on_row(plan, one, other, place):
    """Tell whether a place lies on the row between two places, their ends counted in."""
    return gap_of(plan, one, place) + gap_of(plan, place, other) == gap_of(plan, one, other)


def room_at(plan, pipe, room):
    """Tell at which at of a pipe one of its rooms is."""
    return 0 if plan.pipes[pipe][0] == room else plan.pipes[pipe][2]


def row_of(plan, one, other):
    """Tell the row from a place to another one as pieces (pipe, begin, stop): stretches of ats, one behind another."""
    if are_in_one_pipe(one, other):
        return [(one[0], one[1], other[1])]
    steps, here, last = shortest(plan, one, other)
    pieces = []
    if len(one) == 2:
        pieces.append((one[0], one[1], room_at(plan, one[0], here)))
    while here != last:
        pipe, at, beyond, far = plan.towards[last][here]
        pieces.append((pipe, at, far))
        here = beyond
    if len(other) == 2:
        pieces.append((other[0], room_at(plan, other[0], last), other[1]))
    return pieces


def length_of(piece):
    """Tell how many steps a piece of a row has."""
    return abs(piece[2] - piece[1])


def at_along(piece, steps):
    """Tell the at that is so many steps on from where a piece begins."""
    pipe, begin, stop = piece
    return begin + steps if begin < stop else begin - steps


def place_along(plan, pieces, steps):
    """Tell the place so many steps on, of a row of one step or more."""
    left = steps
    for piece in pieces[:-1]:
        if left <= length_of(piece):
            return place_at(plan, piece[0], at_along(piece, left))
        left -= length_of(piece)
    return place_at(plan, pieces[-1][0], at_along(pieces[-1], left))


def place_between(plan, one, other, steps):
    """Tell the place so many steps from one place on the row to another, perhaps the same one."""
    if steps == 0:
        return one
    return place_along(plan, row_of(plan, one, other), steps)
