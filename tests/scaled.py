"""Small houses made large: all lengths times a number, so that what is far can be held against what is near.

All that is told of a house scaled by a number grows along with it in a
straight line, once the number is above 2: so what the steps one by one tell of
it scaled by 3 and by 4 tells what must be told of it scaled by 10 ** 10.
"""


def scaled_house(house, by):
    rooms, pipes = house
    return (rooms, tuple(
        (
            one, other, length * by, tuple((at * by, width) for at, width in narrows),
            tuple((at * by, way) for at, way in flaps),
        )
        for one, other, length, narrows, flaps in pipes
    ))


def scaled_rope(rope, by):
    length, knots = rope
    return (length * by, tuple((behind * by, size) for behind, size in knots))


def scaled_place(place, by):
    return place if len(place) == 1 else (place[0], place[1] * by)


def scaled_stand(stand, by):
    return tuple(scaled_place(place, by) for place in stand)


class Crooked(Exception):
    """The shapes of two answers differ, so no line can be drawn through them."""


def on_line(third, fourth, by):
    """What stands at a number on the straight line through nested tuples that stand at 3 and at 4."""
    if type(third) is tuple and type(fourth) is tuple and len(third) == len(fourth):
        return tuple(on_line(one, other, by) for one, other in zip(third, fourth))
    if type(third) is int and type(fourth) is int:
        return third + (fourth - third) * (by - 3)
    if third == fourth:
        return third
    raise Crooked()
