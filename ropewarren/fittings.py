"""Narrow places and flaps put into a house and taken out of it."""

from ropewarren.changes import refuse_no_pipe, with_pipe
from ropewarren.errors import Full, NoAt, NoFlap, NoNarrow, NoSize, NoWay
from ropewarren.houses import is_flap_way
from ropewarren.wholes import FLAPS, NARROWS, WIDE, is_within

# Where a pipe has its narrow places, and where its flaps.
NARROW = 3
FLAP = 4


def narrowed(house, pipe, at, width):
    """Tell the house with a place that narrow, of anything as pipe, at and width."""
    refuse_no_pipe(house, pipe)
    if not is_within(at, 1, house[1][pipe][2] - 1):
        raise NoAt(at)
    if not is_within(width, 1, WIDE):
        raise NoSize(width)
    if not is_fitted(house, NARROW, pipe, at) and count_of(house, NARROW) >= NARROWS:
        raise Full("narrows")
    return fitted(house, NARROW, pipe, at, [(at, width)])


def cleared(house, pipe, at):
    """Tell the house without a narrow place, of anything as pipe and at."""
    if not is_fitted(house, NARROW, pipe, at):
        raise NoNarrow(pipe, at)
    return fitted(house, NARROW, pipe, at, [])


def hung(house, pipe, at, way):
    """Tell the house with a flap, of anything as pipe, at and way."""
    refuse_no_pipe(house, pipe)
    if not is_within(at, 0, house[1][pipe][2] - 1):
        raise NoAt(at)
    if not is_flap_way(way):
        raise NoWay(way)
    if not is_fitted(house, FLAP, pipe, at) and count_of(house, FLAP) >= FLAPS:
        raise Full("flaps")
    return fitted(house, FLAP, pipe, at, [(at, way)])


def taken(house, pipe, at):
    """Tell the house without a flap, of anything as pipe and at."""
    if not is_fitted(house, FLAP, pipe, at):
        raise NoFlap(pipe, at)
    return fitted(house, FLAP, pipe, at, [])


def is_fitted(house, kind, pipe, at):
    """Tell whether there is one of a kind at a place of a pipe, of anything as both."""
    pipes = house[1]
    if not is_within(pipe, 0, len(pipes) - 1) or not is_within(at, 0, pipes[pipe][2]):
        return False
    return any([row[0] == at for row in pipes[pipe][kind]])


def count_of(house, kind):
    """Tell how many of a kind there are in all pipes together."""
    return sum([len(row[kind]) for row in house[1]])


def fitted(house, kind, pipe, at, put):
    """Tell the house with what is put in the place of what there is of a kind at a place of a pipe."""
    rooms, pipes = house
    row = pipes[pipe]
    rows = tuple(sorted([(spot, worth) for spot, worth in row[kind] if spot != at] + put))
    return (rooms, with_pipe(pipes, pipe, row[:kind] + (rows,) + row[kind + 1:]))
