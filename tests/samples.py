"""Things that the tests hand in: houses, faulty houses, and anything as [2] says."""

import random

LONG = 10 ** 12
WIDE = 10 ** 6

# What [2] calls anything, none of it a house, and none of it a place.
OTHERS = (
    None, True, False, 0, 1, -1, 2, 16, 10 ** 39, -(10 ** 39), "", "0", "house", "1\n2", "a" * 4000,
    (), [], {}, [0], [0, 1], {0: 1}, {"rooms": 1, "pipes": ()}, (None,), (True,), (False,), ("0",), ((),), ([],),
    (None, None), (True, True), ("1", ()), ([1, []],), ((0, 1),), {(0,): [{"a": (1, [2])}]},
    (0, 0, 0), (1, (), ()), [1, ()], (1, []), (1, {}), (1, None), (True, ()), (1, 0), [(0,)], ((0,), (0,)),
    tuple(range(20000)), list(range(19999)), ((((((((((((),),),),),),),),),),),),
)


def pipe(one, other, length=1, narrows=(), flaps=()):
    return (one, other, length, narrows, flaps)


def path(rooms, length=1):
    """A house whose rooms stand in a row."""
    return (rooms, tuple(pipe(room, room + 1, length) for room in range(rooms - 1)))


def star(rooms, length=1):
    """A house whose rooms all hang on room 0."""
    return (rooms, tuple(pipe(0, room, length) for room in range(1, rooms)))


def with_narrows(*narrows, length=100):
    return (2, (pipe(0, 1, length, narrows),))


def with_flaps(*flaps, length=100):
    return (2, (pipe(0, 1, length, (), flaps),))


def random_house(dice):
    """Any tree of rooms, pipes in any order, with narrow places and flaps in some of them."""
    rooms = dice.randint(1, 16)
    names = list(range(rooms))
    dice.shuffle(names)
    ends = [tuple(sorted((names[at], names[dice.randrange(at)]))) for at in range(1, rooms)]
    dice.shuffle(ends)
    narrows, flaps = 12, 6
    pipes = []
    for one, other in ends:
        length = dice.choice((1, 2, 3, dice.randint(1, 30), dice.randint(1, LONG), LONG))
        wide = min(length - 1, narrows, dice.choice((0, 0, 1, 2, 5, 12)))
        hung = min(length, flaps, dice.choice((0, 0, 1, 2, 3, 6)))
        narrows, flaps = narrows - wide, flaps - hung
        ats = sorted(dice.sample(range(1, length), wide))
        hangs = sorted(dice.sample(range(length), hung))
        pipes.append((
            one, other, length,
            tuple((at, dice.choice((1, 2, WIDE, dice.randint(1, WIDE)))) for at in ats),
            tuple((at, dice.choice((1, -1))) for at in hangs),
        ))
    return (rooms, tuple(pipes))


def parts_of(thing, path_to=()):
    """The paths to all parts of nested tuples, the whole one too."""
    yield path_to
    if isinstance(thing, tuple):
        for at, inner in enumerate(thing):
            yield from parts_of(inner, path_to + (at,))


def part_at(thing, path_to):
    for at in path_to:
        thing = thing[at]
    return thing


def put(thing, path_to, new):
    """The nested tuples with another part put at that path."""
    if not path_to:
        return new
    at = path_to[0]
    return thing[:at] + (put(thing[at], path_to[1:], new),) + thing[at + 1:]


def spoilt(dice, part):
    """Another thing in the place of a part: near to it, or far from it."""
    if isinstance(part, tuple):
        choices = [list(part), part + (dice.choice(OTHERS),), part[1:], part[:-1], part[::-1], part + part[-1:]]
    elif isinstance(part, int):
        choices = [part + 1, part - 1, -part, str(part), bool(part), part * 10 ** 12, 0, 1]
    else:
        choices = [0, ()]
    return dice.choice(choices + [dice.choice(OTHERS)])


def spoilt_house(dice):
    """A house with some part changed, left out or put in: sometimes it is still one."""
    house = random_house(dice)
    for _ in range(dice.choice((1, 1, 1, 2))):
        path_to = dice.choice(list(parts_of(house)))
        if path_to:
            house = put(house, path_to, spoilt(dice, part_at(house, path_to)))
    return house


def dice_of(seed):
    return random.Random(seed)
