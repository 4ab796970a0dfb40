"""A warren of a small house, word by word as [33] and [35] to [37], all gone through step by step.

Each deed and each question about a wish gives ("done", ...) or the name of the
class that it is refused with, and its fields. Nothing of the package is used.
"""

from brute import HEAD, TAIL, Brute, is_places

LONG = 10 ** 12
WIDE = 10 ** 6


class Refused(Exception):
    """The name of the class, and its fields."""


def is_from(thing, low, high):
    return type(thing) is int and low <= thing <= high


def need(holds, *refusal):
    if not holds:
        raise Refused(*refusal)


class Model:
    """House, rope, stand and steps, the deeds with what was ahead of each, and the wishes."""

    def __init__(self, house, rope, stand):
        self.state = (house, rope, stand, 0)
        self.past = []
        self.wishes = {}

    def tried(self, ask, *things):
        """What a deed or a question tells, or what it is refused with."""
        try:
            return ("done", getattr(self, ask)(*things))
        except Refused as refusal:
            return refusal.args

    # Deeds.

    def deed(self, word, *things):
        need(len(self.past) < 200, "TooMany", 200)
        house, rope, stand, steps = self.state
        house, rope, stand, more = getattr(self, "do_" + word)(house, rope, stand, *things)
        self.past.append((word, things, self.state))
        self.state = (house, rope, stand, steps + more)
        return len(self.past)

    def is_stand(self, house, rope, thing):
        brute = Brute(house)
        if type(thing) is not tuple or len(thing) != 2 or not is_places(brute, thing):
            return False
        return brute.is_stand(rope, *thing)

    def do_pull(self, house, rope, stand, end, place):
        brute = Brute(house)
        need(is_from(end, 0, 1), "NoEnd", end)
        need(is_places(brute, (place,)), "NoPlace", place)
        told = brute.leg(rope, stand, end, place)
        need(told[0] == "stand", *told)
        return house, rope, told[1], brute.distance(stand[end], place)

    def do_lead(self, house, rope, stand, wish):
        need(self.is_stand(house, rope, wish), "NoStand")
        far = Brute(house).reach(rope, stand)
        need(wish in far, "Barred")
        return house, rope, wish, far[wish]

    def do_tie(self, house, rope, stand, behind, size):
        brute = Brute(house)
        length, knots = rope
        need(is_from(behind, 0, length), "NoBit", behind)
        need(is_from(size, 1, WIDE), "NoSize", size)
        need(behind not in dict(knots), "Twice", behind)
        need(len(knots) < 4, "Full", "knots")
        place = brute.bits(stand)[behind]
        need(brute.widths.get(place, WIDE) >= size, "Tight", *place)
        return house, (length, tuple(sorted(knots + ((behind, size),)))), stand, 0

    def do_untie(self, house, rope, stand, knot):
        need(is_from(knot, 0, len(rope[1]) - 1), "NoKnot", knot)
        return house, (rope[0], rope[1][:knot] + rope[1][knot + 1:]), stand, 0

    def do_trim(self, house, rope, stand, end, by):
        need(is_from(end, 0, 1), "NoEnd", end)
        need(is_from(by, 1, rope[0] - 1), "NoBy", by)
        bits = Brute(house).bits(stand)
        if end == HEAD:
            knots = tuple((behind - by, size) for behind, size in rope[1] if behind >= by)
            return house, (rope[0] - by, knots), (stand[TAIL], bits[by]), 0
        knots = tuple((behind, size) for behind, size in rope[1] if behind <= rope[0] - by)
        return house, (rope[0] - by, knots), (bits[-1 - by], stand[HEAD]), 0

    def with_row(self, house, number, narrows=None, flaps=None):
        rooms, pipes = house
        one, other, length, old_narrows, old_flaps = pipes[number]
        row = (
            one, other, length, old_narrows if narrows is None else tuple(sorted(narrows.items())),
            old_flaps if flaps is None else tuple(sorted(flaps.items())),
        )
        return (rooms, tuple(row if at == number else kept for at, kept in enumerate(pipes)))

    def do_narrow(self, house, rope, stand, number, at, width):
        pipes = house[1]
        need(is_from(number, 0, len(pipes) - 1), "NoPipe", number)
        need(is_from(at, 1, pipes[number][2] - 1), "NoAt", at)
        need(is_from(width, 1, WIDE), "NoSize", width)
        narrows = dict(pipes[number][3])
        need(at in narrows or sum(len(row[3]) for row in pipes) < 12, "Full", "narrows")
        bits = Brute(house).bits(stand)
        greater = [behind for behind, size in rope[1] if size > width and bits[behind] == (number, at)]
        need(not greater, "Tight", number, at)
        narrows[at] = width
        return self.with_row(house, number, narrows=narrows), rope, stand, 0

    def do_clear(self, house, rope, stand, number, at):
        spots = [(pipe, spot) for pipe, row in enumerate(house[1]) for spot, width in row[3]]
        need(type(number) is int and type(at) is int and (number, at) in spots, "NoNarrow", number, at)
        narrows = dict(house[1][number][3])
        del narrows[at]
        return self.with_row(house, number, narrows=narrows), rope, stand, 0

    def do_hang(self, house, rope, stand, number, at, way):
        pipes = house[1]
        need(is_from(number, 0, len(pipes) - 1), "NoPipe", number)
        need(is_from(at, 0, pipes[number][2] - 1), "NoAt", at)
        need(type(way) is int and way in (1, -1), "NoWay", way)
        flaps = dict(pipes[number][4])
        need(at in flaps or sum(len(row[4]) for row in pipes) < 6, "Full", "flaps")
        flaps[at] = way
        return self.with_row(house, number, flaps=flaps), rope, stand, 0

    def do_take(self, house, rope, stand, number, at):
        spots = [(pipe, spot) for pipe, row in enumerate(house[1]) for spot, way in row[4]]
        need(type(number) is int and type(at) is int and (number, at) in spots, "NoFlap", number, at)
        flaps = dict(house[1][number][4])
        del flaps[at]
        return self.with_row(house, number, flaps=flaps), rope, stand, 0

    def do_lengthen(self, house, rope, stand, number, by):
        rooms, pipes = house
        need(is_from(number, 0, len(pipes) - 1), "NoPipe", number)
        one, other, length, narrows, flaps = pipes[number]
        need(is_from(by, 1, LONG - length), "NoBy", by)
        brute = Brute(house)
        bits, line = brute.bits(stand), brute.line(number)
        need(not any(here in bits and there in bits for here, there in zip(line, line[1:])), "Under", number)
        row = (one, other, length + by, narrows, flaps)
        return (rooms, pipes[:number] + (row,) + pipes[number + 1:]), rope, stand, 0

    def do_grow(self, house, rope, stand, room, length):
        rooms, pipes = house
        need(is_from(room, 0, rooms - 1), "NoRoom", room)
        need(is_from(length, 1, LONG), "NoBy", length)
        need(rooms < 16, "Full", "rooms")
        return (rooms + 1, pipes + ((room, rooms, length, (), ()),)), rope, stand, 0

    def do_halve(self, house, rope, stand, number, at):
        rooms, pipes = house
        need(is_from(number, 0, len(pipes) - 1), "NoPipe", number)
        one, other, length, narrows, flaps = pipes[number]
        need(is_from(at, 1, length - 1), "NoAt", at)
        need(rooms < 16, "Full", "rooms")
        near = (one, rooms, at, tuple(row for row in narrows if row[0] < at), tuple(row for row in flaps if row[0] < at))
        beyond = (
            other, rooms, length - at, tuple((length - spot, width) for spot, width in narrows[::-1] if spot > at),
            tuple((length - 1 - spot, -way) for spot, way in flaps[::-1] if spot >= at),
        )
        new = (rooms + 1, pipes[:number] + (near,) + pipes[number + 1:] + (beyond,))
        moved = self.moved(house, number, at)
        self.lead_wishes(moved)
        return new, rope, tuple(moved[place] for place in stand), 0

    def moved(self, house, number, at):
        """Where each place of a house is when it is halved."""
        moved = {place: place for place in Brute(house).places}
        moved[number, at] = (house[0],)
        length = house[1][number][2]
        for spot in range(at + 1, length):
            moved[number, spot] = (len(house[1]), length - spot)
        return moved

    def lead_wishes(self, moved):
        self.wishes = {
            name: (tuple(moved.get(place, place) for place in wish), word)
            for name, (wish, word) in self.wishes.items()
        }

    def back(self):
        need(self.past, "NoBack")
        word, things, before = self.past.pop()
        if word == "halve":
            moved = self.moved(before[0], *things)
            self.lead_wishes({there: here for here, there in moved.items()})
        self.state = before
        return len(self.past)

    # Wishes.

    def word(self, wish):
        """("way", steps) or ("bar",) of a wish; None where it is no stand."""
        house, rope, stand, steps = self.state
        if not self.is_stand(house, rope, wish):
            return None
        far = Brute(house).reach(rope, stand)
        return ("way", far[wish]) if wish in far else ("bar",)

    def keep(self, name, wish):
        letters = "abcdefghijklmnopqrstuvwxyz"
        need(type(name) is str and 1 <= len(name) <= 8 and all(sign in letters for sign in name), "NoName", name)
        need(name not in self.wishes, "Twice", name)
        word = self.word(wish)
        need(word is not None, "NoStand")
        need(len(self.wishes) < 10, "Full", "wishes")
        self.wishes[name] = (wish, word[0])

    def drop(self, name):
        need(type(name) is str and name in self.wishes, "NoName", name)
        del self.wishes[name]

    def told(self, name):
        need(type(name) is str and name in self.wishes, "NoName", name)
        wish = self.wishes[name][0]
        word = self.word(wish)
        need(word is not None, "NoStand")
        self.wishes[name] = (wish, word[0])
        return word

    def changed(self):
        return tuple(sorted(
            name for name, (wish, word) in self.wishes.items() if (self.word(wish) or (None,))[0] != word
        ))
