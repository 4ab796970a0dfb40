"""Houses changed: a pipe halved or lengthened, a room grown."""

from ropewarren.errors import Full, NoAt, NoBy, NoPipe, NoRoom
from ropewarren.wholes import LONG, ROOMS, is_within


def halved(house, pipe, at):
    """Tell the house with a room put at a place of a pipe, of anything as pipe and at."""
    refuse_no_half(house, pipe, at)
    rooms, pipes = house
    one, other, length, narrows, flaps = pipes[pipe]
    near = (
        one, rooms, at,
        tuple([(spot, width) for spot, width in narrows if spot < at]),
        tuple([(spot, way) for spot, way in flaps if spot < at]),
    )
    beyond = (
        other, rooms, length - at,
        tuple(sorted([(length - spot, width) for spot, width in narrows if spot > at])),
        tuple(sorted([(length - 1 - spot, -way) for spot, way in flaps if spot >= at])),
    )
    return (rooms + 1, with_pipe(pipes, pipe, near) + (beyond,))


def with_pipe(pipes, number, row):
    """Tell pipes with another one in the place of that number."""
    return pipes[:number] + (row,) + pipes[number + 1:]


def refuse_no_half(house, pipe, at):
    """Refuse to halve a house, of anything as pipe and at."""
    refuse_no_pipe(house, pipe)
    if not is_within(at, 1, house[1][pipe][2] - 1):
        raise NoAt(at)
    refuse_full_rooms(house)


def refuse_no_pipe(house, pipe):
    """Refuse anything that is no pipe's number."""
    if not is_within(pipe, 0, len(house[1]) - 1):
        raise NoPipe(pipe)


def refuse_full_rooms(house):
    """Refuse a house that has as many rooms as may be."""
    if house[0] >= ROOMS:
        raise Full("rooms")


def place_halved(house, pipe, at, place):
    """Tell where a place of the house is when it is halved, of anything as pipe and at."""
    refuse_no_half(house, pipe, at)
    if len(place) == 1 or place[0] != pipe or place[1] < at:
        return place
    if place[1] == at:
        return (house[0],)
    return (len(house[1]), house[1][pipe][2] - place[1])


def place_whole(house, pipe, at, place):
    """Tell where a place of the halved house is in the house that was halved: place_halved taken back."""
    if place == (house[0],):
        return (pipe, at)
    if len(place) == 2 and place[0] == len(house[1]):
        return (pipe, house[1][pipe][2] - place[1])
    return place


def lengthened(house, pipe, by):
    """Tell the house with a pipe longer at its room other, of anything as pipe and by."""
    refuse_no_pipe(house, pipe)
    rooms, pipes = house
    one, other, length, narrows, flaps = pipes[pipe]
    if not is_within(by, 1, LONG - length):
        raise NoBy(by)
    return (rooms, with_pipe(pipes, pipe, (one, other, length + by, narrows, flaps)))


def grown(house, room, length):
    """Tell the house with a new room on a new pipe to a room, of anything as room and length."""
    rooms, pipes = house
    if not is_within(room, 0, rooms - 1):
        raise NoRoom(room)
    if not is_within(length, 1, LONG):
        raise NoBy(length)
    refuse_full_rooms(house)
    return (rooms + 1, pipes + ((room, rooms, length, (), ()),))
