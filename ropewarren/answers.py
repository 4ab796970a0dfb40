"""What a desk answers when a warren refuses: the word no, and the name of the refusal's class.

An error doesn't tell the name of its class, so each one is caught by its own.
"""

from ropewarren.errors import (
    Back, Barred, Full, NoAt, NoBack, NoBit, NoBy, NoFlap, NoKnot, NoName, NoNarrow, NoPipe, NoPlace, NoRoom, NoSize,
    NoStand, NoWay, Shut, Stuck, Tight, TooMany, Twice, Under,
)


def answered(action, warren, values):
    """Tell what an action answers, or what it is refused with."""
    try:
        return answered_of_changes(action, warren, values)
    except NoPlace:
        return "no NoPlace"
    except Back:
        return "no Back"
    except Shut:
        return "no Shut"
    except Stuck:
        return "no Stuck"
    except NoStand:
        return "no NoStand"
    except Barred:
        return "no Barred"
    except TooMany:
        return "no TooMany"
    except NoBack:
        return "no NoBack"
    except NoName:
        return "no NoName"
    except Twice:
        return "no Twice"
    except Full:
        return "no Full"


def answered_of_changes(action, warren, values):
    """Tell what an action answers, or what it is refused with of those that are for one change or another."""
    try:
        return action(warren, *values)
    except NoBit:
        return "no NoBit"
    except NoSize:
        return "no NoSize"
    except NoKnot:
        return "no NoKnot"
    except NoBy:
        return "no NoBy"
    except NoPipe:
        return "no NoPipe"
    except NoAt:
        return "no NoAt"
    except NoRoom:
        return "no NoRoom"
    except NoWay:
        return "no NoWay"
    except NoNarrow:
        return "no NoNarrow"
    except NoFlap:
        return "no NoFlap"
    except Tight:
        return "no Tight"
    except Under:
        return "no Under"
