"""A warren: a house, a rope and its stand, changed by deeds that can be taken back; and wishes, which are kept."""

from ropewarren.changes import grown, halved, lengthened, place_halved, place_whole
from ropewarren.errors import (
    Barred, Full, NoBack, NoHouse, NoName, NoRope, NoStand, Tight, TooMany, Twice, Under,
)
from ropewarren.fittings import cleared, hung, narrowed, taken
from ropewarren.houses import is_house, is_place
from ropewarren.knots import refuse_no_knot, tied, trimmed, untied
from ropewarren.plans import Plan, row_of
from ropewarren.pulls import leg_done
from ropewarren.ropes import bit_at, is_rope, is_stand
from ropewarren.signs import is_name
from ropewarren.verdicts import BAR, WAY, distance

DEEDS = 200
WISHES = 10
HALVE = "halve"


class Warren:
    """A house, a rope and its stand, with the deeds that stand and the wishes that are kept."""

    def __init__(self, house, rope, stand):
        if not is_house(house):
            raise NoHouse()
        if not is_rope(rope):
            raise NoRope()
        if not is_stand(house, rope, stand):
            raise NoStand()
        # House, rope, stand and steps, as they are; of each deed its word, its things, and these four ahead of it.
        self.now = (house, rope, stand, 0)
        self.past = []
        # Of each name the wish, and its word when it was kept or told last.
        self.kept = {}

    def __eq__(self, other):
        """Tell whether anything is a warren with the same house, rope and stand."""
        return isinstance(other, Warren) and self.now[:3] == other.now[:3]

    def __len__(self):
        """Tell how many deeds stand."""
        return len(self.past)

    def __str__(self):
        """Tell rooms, rope and knots in words."""
        return f"{self.now[0][0]} rooms, rope {self.now[1][0]}, {len(self.now[1][1])} knots"

    def house(self):
        """Tell the house."""
        return self.now[0]

    def rope(self):
        """Tell the rope."""
        return self.now[1]

    def stand(self):
        """Tell the stand."""
        return self.now[2]

    def steps(self):
        """Tell the steps of all pulls and leads that stand."""
        return self.now[3]

    def deeds(self):
        """Tell rows (word, things) of all deeds that stand."""
        return tuple([(word, things) for word, things, before in self.past])

    def refuse_too_many(self):
        """Refuse one more deed where as many stand as may."""
        if len(self.past) >= DEEDS:
            raise TooMany(DEEDS)

    def do(self, word, things, house, rope, stand, steps):
        """Keep a deed, and let all be as it is behind it; tell the deed's number."""
        self.past.append((word, things, self.now))
        self.now = (house, rope, stand, self.now[3] + steps)
        return len(self.past)

    def pull(self, end, place):
        """Pull an end on to a place."""
        self.refuse_too_many()
        house, rope, stand, steps = self.now
        there, more = leg_done(Plan(house), rope, stand, end, place)
        return self.do("pull", (end, place), house, rope, there, more)

    def lead(self, wish):
        """Lead the rope to a wished stand, by the fewest steps."""
        self.refuse_too_many()
        house, rope, stand, steps = self.now
        if not is_stand(house, rope, wish):
            raise NoStand()
        return self.do("lead", (wish,), house, rope, wish, distance(house, rope, stand, wish))

    def tie(self, behind, size):
        """Tie one more knot."""
        self.refuse_too_many()
        house, rope, stand, steps = self.now
        knotted = tied(rope, behind, size)
        if not is_stand(house, knotted, stand):
            pipe, at = bit_at(house, stand, behind)
            raise Tight(pipe, at)
        return self.do("tie", (behind, size), house, knotted, stand, 0)

    def untie(self, knot):
        """Untie a knot."""
        self.refuse_too_many()
        house, rope, stand, steps = self.now
        refuse_no_knot(rope, knot)
        return self.do("untie", (knot,), house, untied(rope, (knot,)), stand, 0)

    def trim(self, end, by):
        """Make the rope shorter at an end."""
        self.refuse_too_many()
        house, rope, stand, steps = self.now
        shorter, there = trimmed(Plan(house), rope, stand, end, by)
        return self.do("trim", (end, by), house, shorter, there, 0)

    def narrow(self, pipe, at, width):
        """Make a place that narrow."""
        self.refuse_too_many()
        house, rope, stand, steps = self.now
        built = narrowed(house, pipe, at, width)
        if not is_stand(built, rope, stand):
            raise Tight(pipe, at)
        return self.do("narrow", (pipe, at, width), built, rope, stand, 0)

    def clear(self, pipe, at):
        """Make a narrow place none any more."""
        self.refuse_too_many()
        house, rope, stand, steps = self.now
        return self.do("clear", (pipe, at), cleared(house, pipe, at), rope, stand, 0)

    def hang(self, pipe, at, way):
        """Hang a flap."""
        self.refuse_too_many()
        house, rope, stand, steps = self.now
        return self.do("hang", (pipe, at, way), hung(house, pipe, at, way), rope, stand, 0)

    def take(self, pipe, at):
        """Take a flap away."""
        self.refuse_too_many()
        house, rope, stand, steps = self.now
        return self.do("take", (pipe, at), taken(house, pipe, at), rope, stand, 0)

    def lengthen(self, pipe, by):
        """Make a pipe longer that the rope doesn't lie in."""
        self.refuse_too_many()
        house, rope, stand, steps = self.now
        built = lengthened(house, pipe, by)
        if any([piece[0] == pipe for piece in row_of(Plan(house), stand[0], stand[1])]):
            raise Under(pipe)
        return self.do("lengthen", (pipe, by), built, rope, stand, 0)

    def grow(self, room, length):
        """Let a new room grow on a new pipe."""
        self.refuse_too_many()
        house, rope, stand, steps = self.now
        return self.do("grow", (room, length), grown(house, room, length), rope, stand, 0)

    def halve(self, pipe, at):
        """Put a room into a pipe; the stand and the wishes are led along."""
        self.refuse_too_many()
        house, rope, stand, steps = self.now
        built = halved(house, pipe, at)
        led = {name: (led_along(house, pipe, at, wish), word) for name, (wish, word) in self.kept.items()}
        self.kept = led
        return self.do(HALVE, (pipe, at), built, rope, led_along(house, pipe, at, stand), 0)

    def back(self):
        """Take the last deed back; tell how many stand."""
        if not self.past:
            raise NoBack()
        word, things, before = self.past.pop()
        if word == HALVE:
            self.lead_wishes_back(before[0], things[0], things[1])
        self.now = before
        return len(self.past)

    def lead_wishes_back(self, house, pipe, at):
        """Lead all wishes back into the house that was halved."""
        built = self.now[0]
        led = {name: (led_back(house, built, pipe, at, wish), word) for name, (wish, word) in self.kept.items()}
        self.kept = led

    def keep(self, name, wish):
        """Keep a wish under a name."""
        if not is_name(name):
            raise NoName(name)
        if name in self.kept:
            raise Twice(name)
        if not self.has_stand(wish):
            raise NoStand()
        if len(self.kept) >= WISHES:
            raise Full("wishes")
        self.kept[name] = (wish, self.answer(wish)[0])

    def drop(self, name):
        """Keep the wish of a name no longer."""
        self.refuse_no_name(name)
        del self.kept[name]

    def refuse_no_name(self, name):
        """Refuse anything under which no wish is kept."""
        if not is_name(name) or name not in self.kept:
            raise NoName(name)

    def names(self):
        """Tell the names of all wishes that are kept, rising."""
        return tuple(sorted(list(self.kept)))

    def told(self, name):
        """Tell ("way", steps) or ("bar", table) of a wish, as all is now."""
        self.refuse_no_name(name)
        wish = self.kept[name][0]
        if not self.has_stand(wish):
            raise NoStand()
        answer = self.answer(wish)
        self.kept[name] = (wish, answer[0])
        return answer

    def changed(self):
        """Tell the names, rising, of wishes whose word is another one now, or that are no stands."""
        return tuple([name for name in self.names() if self.is_changed(name)])

    def is_changed(self, name):
        """Tell whether the word of a wish is another one now, or it is no stand."""
        wish, word = self.kept[name]
        return not self.has_stand(wish) or self.answer(wish)[0] != word

    def has_stand(self, thing):
        """Tell whether anything is a stand of the house and the rope as they are."""
        return is_stand(self.now[0], self.now[1], thing)

    def answer(self, wish):
        """Tell ("way", steps) or ("bar", table) of a wished stand."""
        house, rope, stand, steps = self.now
        try:
            return (WAY, distance(house, rope, stand, wish))
        except Barred as refusal:
            return (BAR, refusal.table)


def led_along(house, pipe, at, places):
    """Tell where places are when the house is halved; those that it doesn't have stay as they are."""
    return tuple([place_halved(house, pipe, at, place) if is_place(house, place) else place for place in places])


def led_back(house, built, pipe, at, places):
    """Tell where places of the halved house, as built, were in the house; those that it doesn't have stay so."""
    return tuple([place_whole(house, pipe, at, place) if is_place(built, place) else place for place in places])
