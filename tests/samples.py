"""Things that the tests hand in: houses, faulty houses, and anything as [2] says."""

import random

LONG = 10 ** 12
WIDE = 10 ** 6

# What [2] calls anything, none of it a house, and none of it a place.
OTHERS = (
    None, True, False, 0, 1, -1, 2, 16, 10 ** 39, -(10 ** 39), "", "0", "house", "1\n2", "a" * 4000,
    (), [], {}, [0], [0, 1], {0: 1}, {"rooms": 1, "pipes": ()}, (None,), (True,), (False,), ("0",), ((),), ([],),
    (None, None), (True, True), ("1", ()), ([1, []],), ((0, 1),), {(0,): [{"a": (1, [2])}]},
    (0, 0, 0), (1, (), ()), [1, ()], (1, []), (1, {}), (1, None), (True, ()), (1, 0), [(0,)], ((0,), (0,)),
    tuple(range(20000)), list(range(19999)), ((((((((((((),),),),),),),),),),),),
)


def pipe(one, other, length=1, narrows=(), flaps=()):
    return (one, other, length, narrows, flaps)


def path(rooms, length=1):
    """A house whose rooms stand in a row."""
    return (rooms, tuple(pipe(room, room + 1, length) for room in range(rooms - 1)))


def star(rooms, length=1):
    """A house whose rooms all hang on room 0."""
    return (rooms, tuple(pipe(0, room, length) for room in range(1, rooms)))


def with_narrows(*narrows, length=100):
    return (2, (pipe(0, 1, length, narrows),))


def with_flaps(*flaps, length=100):
    return (2, (pipe(0, 1, length, (), flaps),))


def random_house(dice):
    """Any tree of rooms, pipes in any order, with narrow places and flaps in some of them."""
    rooms = dice.randint(1, 16)
    ends = tree_ends(dice, rooms)
    narrows, flaps = 12, 6
    pipes = []
    for one, other in ends:
        length = dice.choice((1, 2, 3, dice.randint(1, 30), dice.randint(1, LONG), LONG))
        wide = min(length - 1, narrows, dice.choice((0, 0, 1, 2, 5, 12)))
        hung = min(length, flaps, dice.choice((0, 0, 1, 2, 3, 6)))
        narrows, flaps = narrows - wide, flaps - hung
        ats = sorted(dice.sample(range(1, length), wide))
        hangs = sorted(dice.sample(range(length), hung))
        pipes.append((
            one, other, length,
            tuple((at, dice.choice((1, 2, WIDE, dice.randint(1, WIDE)))) for at in ats),
            tuple((at, dice.choice((1, -1))) for at in hangs),
        ))
    return (rooms, tuple(pipes))


def parts_of(thing, path_to=()):
    """The paths to all parts of nested tuples, the whole one too."""
    yield path_to
    if isinstance(thing, tuple):
        for at, inner in enumerate(thing):
            yield from parts_of(inner, path_to + (at,))


def part_at(thing, path_to):
    for at in path_to:
        thing = thing[at]
    return thing


def put(thing, path_to, new):
    """The nested tuples with another part put at that path."""
    if not path_to:
        return new
    at = path_to[0]
    return thing[:at] + (put(thing[at], path_to[1:], new),) + thing[at + 1:]


def spoilt(dice, part):
    """Another thing in the place of a part: near to it, or far from it."""
    if isinstance(part, tuple):
        choices = [list(part), part + (dice.choice(OTHERS),), part[1:], part[:-1], part[::-1], part + part[-1:]]
    elif isinstance(part, int):
        choices = [part + 1, part - 1, -part, str(part), bool(part), part * 10 ** 12, 0, 1]
    else:
        choices = [0, ()]
    return dice.choice(choices + [dice.choice(OTHERS)])


def bent(dice, thing, changes=(1, 1, 1, 2)):
    """Nested tuples with some parts changed, left out or put in: sometimes they are still what they were."""
    for _ in range(dice.choice(changes)):
        path_to = dice.choice(list(parts_of(thing)))
        if path_to:
            thing = put(thing, path_to, spoilt(dice, part_at(thing, path_to)))
    return thing


def spoilt_house(dice):
    return bent(dice, random_house(dice))


def is_plain(thing):
    """Whether what is told is made of tuples, whole numbers and texts alone."""
    if type(thing) is tuple:
        return all(is_plain(part) for part in thing)
    return type(thing) in (int, str)


def dice_of(seed):
    return random.Random(seed)


def tree_ends(dice, rooms):
    """The pairs of rooms that the pipes of any tree join, in any order."""
    names = list(range(rooms))
    dice.shuffle(names)
    ends = [tuple(sorted((names[at], names[dice.randrange(at)]))) for at in range(1, rooms)]
    dice.shuffle(ends)
    return ends


def furnished(dice, ends, lengths, narrows, flaps, widths=(1, 2, 3)):
    """A house of pipes with these ends, with at most so many narrow places and flaps strewn over them."""
    spots = [(number, at) for number, length in enumerate(lengths) for at in spots_of(dice, 1, length)]
    narrow = dice.sample(spots, min(narrows, len(spots)))
    spots = [(number, at) for number, length in enumerate(lengths) for at in spots_of(dice, 0, length)]
    hung = dice.sample(spots, min(flaps, len(spots)))
    return (len(ends) + 1, tuple(
        (
            one, other, lengths[number],
            tuple((at, dice.choice(widths)) for pipe_of, at in sorted(narrow) if pipe_of == number),
            tuple((at, dice.choice((1, -1))) for pipe_of, at in sorted(hung) if pipe_of == number),
        )
        for number, (one, other) in enumerate(ends)
    ))


def spots_of(dice, low, length):
    """Ats of a pipe: all of a short one, some of a long one."""
    if length <= 30:
        return range(low, length)
    return sorted({low, low + 1, length - 1, length // 2, dice.randrange(low, length), dice.randrange(low, length)})


def small_house(dice, rooms=(1, 6), longest=4, narrows=3, flaps=2):
    """A house that can be gone through place by place."""
    ends = tree_ends(dice, dice.randint(*rooms))
    lengths = [dice.randint(1, longest) for _ in ends]
    return furnished(dice, ends, lengths, dice.randint(0, narrows), dice.randint(0, flaps))


def far_house(dice, rooms=16, narrows=12, flaps=6, longest=LONG):
    """A house that nobody could go through step by step."""
    ends = tree_ends(dice, rooms)
    lengths = [dice.choice((longest, dice.randint(1, longest), dice.randint(1, longest), 1, 2)) for _ in ends]
    return furnished(dice, ends, lengths, narrows, flaps)


def knots_for(dice, length, most=4, sizes=(1, 2, 3, 4)):
    """Knots of a rope of that length."""
    many = dice.randint(0, most)
    behinds = sorted({0, length} | {dice.randint(0, length) for _ in range(many)})
    chosen = sorted(dice.sample(behinds, min(many, len(behinds))))
    return tuple((behind, dice.choice(sizes)) for behind in chosen)
