"""What a house is, and what a place of a house is."""

from ropewarren.tuples import are_rising_pairs, is_tuple_of
from ropewarren.wholes import FLAPS, LONG, NARROWS, ROOMS, WIDE, is_whole, is_within


def is_house(thing):
    """Tell whether anything is a house: a tuple (rooms, pipes)."""
    if not is_tuple_of(thing, 2):
        return False
    rooms, pipes = thing
    if not is_within(rooms, 1, ROOMS) or not is_tuple_of(pipes, rooms - 1):
        return False
    for pipe in pipes:
        if not is_pipe(rooms, pipe):
            return False
    return joins_all(rooms, pipes) and holds_few(pipes)


def is_pipe(rooms, thing):
    """Tell whether anything is a pipe (one, other, length, narrows, flaps) between two of so many rooms."""
    if not is_tuple_of(thing, 5):
        return False
    one, other, length, narrows, flaps = thing
    if not is_within(other, 1, rooms - 1) or not is_within(one, 0, other - 1):
        return False
    if not is_within(length, 1, LONG):
        return False
    return are_narrows(length, narrows) and are_flaps(length, flaps)


def are_narrows(length, thing):
    """Tell whether anything is the narrow places (at, width) of a pipe of that length."""
    if not are_rising_pairs(thing, 1, length - 1):
        return False
    return all([is_within(pair[1], 1, WIDE) for pair in thing])


def are_flaps(length, thing):
    """Tell whether anything is the flaps (at, way) of a pipe of that length."""
    if not are_rising_pairs(thing, 0, length - 1):
        return False
    return all([is_flap_way(pair[1]) for pair in thing])


def is_flap_way(thing):
    """Tell whether anything is a way of a flap."""
    return is_whole(thing) and thing in (1, -1)


def joins_all(rooms, pipes):
    """Tell whether pipes, one fewer than the rooms, join all rooms.

    So few pipes join all rooms just where none of them joins two rooms that
    those ahead of it have joined already.
    """
    groups = list(range(rooms))
    for pipe in pipes:
        kept = groups[pipe[0]]
        gone = groups[pipe[1]]
        if kept == gone:
            return False
        groups = [kept if group == gone else group for group in groups]
    return True


def holds_few(pipes):
    """Tell whether all pipes together have no more narrow places and flaps than a house may."""
    narrows = sum([len(pipe[3]) for pipe in pipes])
    flaps = sum([len(pipe[4]) for pipe in pipes])
    return narrows <= NARROWS and flaps <= FLAPS


def is_place(house, thing):
    """Tell whether anything is a place of the house: (room,), or (pipe, at) between the pipe's rooms."""
    rooms, pipes = house
    if is_tuple_of(thing, 1):
        return is_within(thing[0], 0, rooms - 1)
    if not is_tuple_of(thing, 2) or not is_within(thing[0], 0, len(pipes) - 1):
        return False
    return is_within(thing[1], 1, pipes[thing[0]][2] - 1)
