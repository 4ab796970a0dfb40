"""The refusals: each one bears what it was made of, as handed in."""


class WarrenError(ValueError):
    """What all refusals are."""


class NoHouse(WarrenError):
    """What was handed in is no house."""


class NoRope(WarrenError):
    """What was handed in is no rope."""


class NoStand(WarrenError):
    """What was handed in is no stand."""


class NoBack(WarrenError):
    """No deed stands that could be taken back."""


class NoText(WarrenError):
    """What was handed in is the text of no such thing."""


class Flapped(WarrenError):
    """The house has flaps where none may be."""


class NoEnd(WarrenError):
    """What was handed in is no end."""

    def __init__(self, end):
        self.end = end


class NoPlace(WarrenError):
    """What was handed in is no place of the house."""

    def __init__(self, place):
        self.place = place


class NoPipe(WarrenError):
    """What was handed in is no pipe of the house."""

    def __init__(self, pipe):
        self.pipe = pipe


class NoAt(WarrenError):
    """What was handed in is no at of the pipe that would do."""

    def __init__(self, at):
        self.at = at


class NoRoom(WarrenError):
    """What was handed in is no room of the house."""

    def __init__(self, room):
        self.room = room


class NoBy(WarrenError):
    """What was handed in is no number of steps that would do."""

    def __init__(self, by):
        self.by = by


class NoBit(WarrenError):
    """What was handed in is no bit of the rope."""

    def __init__(self, behind):
        self.behind = behind


class NoSize(WarrenError):
    """What was handed in is no size or width."""

    def __init__(self, size):
        self.size = size


class NoWay(WarrenError):
    """What was handed in is no way of a flap."""

    def __init__(self, way):
        self.way = way


class NoKnot(WarrenError):
    """What was handed in is no knot of the rope."""

    def __init__(self, knot):
        self.knot = knot


class NoName(WarrenError):
    """What was handed in is no name, or none that is kept."""

    def __init__(self, name):
        self.name = name


class Twice(WarrenError):
    """What was handed in is there already."""

    def __init__(self, thing):
        self.thing = thing


class Full(WarrenError):
    """There are as many of these as may be."""

    def __init__(self, what):
        self.what = what


class Back(WarrenError):
    """No leg of that end leads to the place."""

    def __init__(self, place):
        self.place = place


class Stuck(WarrenError):
    """The knot would lie at a place narrower than it."""

    def __init__(self, knot):
        self.knot = knot


class Under(WarrenError):
    """A step of the pipe lies under the rope."""

    def __init__(self, pipe):
        self.pipe = pipe


class Unseen(WarrenError):
    """No way comes to the sights up to that number."""

    def __init__(self, number):
        self.number = number


class TooMany(WarrenError):
    """As many deeds stand as may at most."""

    def __init__(self, most):
        self.most = most


class Barred(WarrenError):
    """The wish can't be come to: it isn't in the table."""

    def __init__(self, table):
        self.table = table


class Shut(WarrenError):
    """The flap doesn't let a step."""

    def __init__(self, pipe, at):
        self.pipe = pipe
        self.at = at


class Tight(WarrenError):
    """A greater knot would lie at the narrow place."""

    def __init__(self, pipe, at):
        self.pipe = pipe
        self.at = at


class NoNarrow(WarrenError):
    """There is no such narrow place."""

    def __init__(self, pipe, at):
        self.pipe = pipe
        self.at = at


class NoFlap(WarrenError):
    """There is no such flap."""

    def __init__(self, pipe, at):
        self.pipe = pipe
        self.at = at


class NoPart(WarrenError):
    """There is no such part of the rope."""

    def __init__(self, first, last):
        self.first = first
        self.last = last
