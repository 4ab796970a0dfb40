"""Any deeds for a warren, many that can be done and many that are refused, and what the warren says of them."""

from ropewarren.errors import WarrenError
from samples import OTHERS

NUMBERS = (-1, 0, 0, 1, 1, 2, 3, 4, 5, 6, 7)
DEEDS = (
    "pull", "pull", "pull", "lead", "lead", "tie", "tie", "untie", "trim", "narrow", "narrow", "clear", "hang", "take",
    "lengthen", "grow", "halve", "halve",
)


def fields_of(error):
    """The name of a refusal's class, and what it bears."""
    return (type(error).__name__, *vars(error).values())


def tried(ask, *things):
    """("done", what is told), or the name of the class that it is refused with, and its fields."""
    try:
        return ("done", ask(*things))
    except WarrenError as refusal:
        return fields_of(refusal)


def any_spot(dice, house):
    """A room or a place in a pipe, perhaps one beyond what there is."""
    rooms, pipes = house
    if not pipes or dice.random() < 0.4:
        return (dice.randrange(rooms + 1),)
    number = dice.randrange(len(pipes))
    return (number, dice.randint(1, max(1, pipes[number][2])))


def any_fitting(dice, house, kind):
    """The pipe and the at of a narrow place (3) or a flap (4), if there are some, else any two numbers."""
    spots = [(number, row[0]) for number, pipe in enumerate(house[1]) for row in pipe[kind]]
    return dice.choice(spots) if spots else (dice.choice(NUMBERS), dice.choice(NUMBERS))


def any_things(dice, word, house, rope, stands):
    """Things for a deed, mostly of the right kind."""
    number = dice.choice(NUMBERS)
    pipe = dice.randrange(max(1, len(house[1])))
    things = {
        "pull": lambda: (dice.choice((0, 1)), any_spot(dice, house)),
        "lead": lambda: (dice.choice(stands) if stands else ((0,), (0,)),),
        "tie": lambda: (dice.randint(-1, rope[0] + 1), dice.choice((1, 1, 2, 3, 0, 10 ** 6, 10 ** 6 + 1))),
        "untie": lambda: (dice.choice((0, 0, 1, 2, 3)),),
        "trim": lambda: (dice.choice((0, 1)), dice.choice((0, 1, 1, rope[0] - 1, rope[0]))),
        "narrow": lambda: (pipe, number, dice.choice((1, 2, 3, 0, 10 ** 6, 10 ** 6 + 1))),
        "clear": lambda: any_fitting(dice, house, 3),
        "hang": lambda: (pipe, number, dice.choice((1, -1, 1, -1, 0, 2))),
        "take": lambda: any_fitting(dice, house, 4),
        "lengthen": lambda: (pipe, number),
        "grow": lambda: (dice.randrange(house[0]), dice.choice((1, 2, 3, 0))),
        "halve": lambda: (pipe, number),
    }[word]()
    if dice.random() < 0.12:
        at = dice.randrange(len(things))
        things = things[:at] + (dice.choice(OTHERS + NUMBERS),) + things[at + 1:]
    return things
