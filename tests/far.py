"""Stands and legs in houses that nobody could go through step by step."""

from ropewarren.places import distance_of, place_on
from ropewarren.ropes import is_stand
from ropewarren.verdicts import verdict
from samples import knots_for


def any_place(dice, house):
    """Any place, rooms and the places next to them often."""
    rooms, pipes = house
    inner = [number for number, row in enumerate(pipes) if row[2] > 1]
    if not inner or dice.random() < 0.3:
        return (dice.randrange(rooms),)
    number = dice.choice(inner)
    length = pipes[number][2]
    return (number, dice.choice((1, length - 1, dice.randrange(1, length), dice.randrange(1, length))))


def any_stand(dice, house, knots=4):
    """Any rope and a stand of it; of its knots those are untied with which it would be none."""
    tail = head = any_place(dice, house)
    while tail == head:
        head = any_place(dice, house)
    length = distance_of(house, tail, head)
    fit = [
        knot for knot in knots_for(dice, length, knots) if is_stand(house, (length, (knot,)), (tail, head))
    ]
    return (length, tuple(fit)), (tail, head)


def room_beyond(dice, house, stand, end):
    """A room to which a leg of the end could lead, None if there is none."""
    beyond = [
        (room,) for room in range(house[0]) if (room,) != stand[end]
        and distance_of(house, stand[1 - end], (room,))
        == distance_of(house, *stand) + distance_of(house, stand[end], (room,))
    ]
    return dice.choice(beyond) if beyond else None


def any_wish(dice, house, rope, start):
    """A stand of the same rope in a far house, some of those that can be come to often; the start if none is found."""
    rows = verdict(house, rope, start, start)[-1]
    if dice.random() < 0.4:
        return dice.choice(rows)[:2]
    for _ in range(20):
        tail, room = any_place(dice, house), (dice.randrange(house[0]),)
        if distance_of(house, tail, room) >= rope[0]:
            wish = (tail, place_on(house, tail, room, rope[0]))[::dice.choice((1, -1))]
            if is_stand(house, rope, wish):
                return wish
    return start
