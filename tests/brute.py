"""All that the document says of small houses, gone through place by place and step by step.

Nothing of the package is used here: what is told there is held against this.
"""

from collections import deque

TAIL, HEAD = 0, 1


class Brute:
    """A house of short pipes with all its places, and the places next to each."""

    def __init__(self, house):
        self.house = house
        rooms, pipes = house
        self.beside = {(room,): [] for room in range(rooms)}
        self.widths = {}
        self.flaps = []
        for number, (one, other, length, narrows, flaps) in enumerate(pipes):
            line = self.line(number)
            for here, there in zip(line, line[1:]):
                self.beside.setdefault(here, []).append(there)
                self.beside.setdefault(there, []).append(here)
            for at, width in narrows:
                self.widths[line[at]] = width
            for at, way in flaps:
                pair = (line[at], line[at + 1])
                self.flaps.append(((number, at), pair if way == 1 else pair[::-1]))
        self.places = sorted(self.beside)
        self.trees = {place: self.tree(place) for place in self.places}

    def line(self, number):
        """All places of a pipe from its room one to its room other."""
        one, other, length = self.house[1][number][:3]
        return [(one,)] + [(number, at) for at in range(1, length)] + [(other,)]

    def tree(self, place):
        """From each place the next one towards the given one."""
        back = {place: None}
        todo = deque([place])
        while todo:
            here = todo.popleft()
            for there in self.beside[here]:
                if there not in back:
                    back[there] = here
                    todo.append(there)
        return back

    def row(self, one, other):
        """All places from one to other."""
        row = [one]
        while row[-1] != other:
            row.append(self.trees[other][row[-1]])
        return row

    def distance(self, one, other):
        return len(self.row(one, other)) - 1

    def depth(self, place, beside):
        """The greatest distance to any place that hangs on a place by one next to it."""
        return max(self.distance(place, other) for other in self.places if beside in self.row(place, other))

    def long_arms(self, length, place):
        return tuple(sorted(beside for beside in self.beside[place] if self.depth(place, beside) >= length))

    # Stands and steps, bit by bit.

    def bits(self, stand):
        """Where the bits lie, from the head's on."""
        return self.row(stand[1], stand[0])

    def tight_knots(self, rope, bits):
        return [
            number for number, (behind, size) in enumerate(rope[1])
            if bits[behind] in self.widths and self.widths[bits[behind]] < size
        ]

    def is_stand(self, rope, tail, head):
        return self.distance(tail, head) == rope[0] and not self.tight_knots(rope, self.bits((tail, head)))

    def stands(self, rope):
        return [
            (tail, head) for tail in self.places for head in self.places if self.is_stand(rope, tail, head)
        ]

    def moved(self, bits, end, place):
        """The bits behind a step, each at where the one ahead of it lay."""
        return [place] + bits[:-1] if end == HEAD else bits[1:] + [place]

    def shut_flaps(self, bits, behind, end):
        """The flaps, rising, that don't let a step between these bits and those behind it."""
        shut = []
        for name, (from_place, to_place) in self.flaps:
            for line in (bits, behind):
                if from_place in line and to_place in line:
                    # The head's bit stands first, so what is pulled by the head goes towards lower ones.
                    goes = line.index(to_place) < line.index(from_place)
                    if goes != (end == HEAD):
                        shut.append(name)
                        break
        return sorted(shut)

    def free(self, stand, end):
        """The places next to an end that aren't under the rope."""
        bits = self.bits(stand)
        return [place for place in self.beside[stand[end]] if place not in bits]

    def step(self, rope, stand, end, place):
        """A step to a place next to the end: (stand, shut flaps, tight knots)."""
        bits = self.bits(stand)
        behind = self.moved(bits, end, place)
        return (behind[-1], behind[0]), self.shut_flaps(bits, behind, end), self.tight_knots(rope, behind)

    def let(self, rope, stand, end, place):
        """The stand behind a step, None if it isn't let."""
        there, shut, tight = self.step(rope, stand, end, place)
        return None if shut or tight else there

    def steps(self, rope, stand):
        """All (end, stand) behind one step that is let."""
        rows = []
        for end in (TAIL, HEAD):
            for place in self.free(stand, end):
                there = self.let(rope, stand, end, place)
                if there is not None:
                    rows.append((end, there))
        return rows

    def leg(self, rope, stand, end, place):
        """A leg, step by step: ("stand", stand), or the name and the fields of what it is refused with."""
        row = self.row(stand[1 - end], place)
        if place == stand[end] or stand[end] not in row:
            return ("Back", place)
        for there in row[row.index(stand[end]) + 1:]:
            behind, shut, tight = self.step(rope, stand, end, there)
            if shut:
                return ("Shut", *shut[0])
            if tight:
                return ("Stuck", tight[0])
            stand = behind
        return ("stand", stand)

    def way(self, rope, start, wish, legs):
        """The steps of legs that lead from start to wish, None if they don't."""
        stand, steps = start, 0
        for end, place in legs:
            told = self.leg(rope, stand, end, place)
            if told[0] != "stand":
                return None
            steps += self.distance(stand[end], place)
            stand = told[1]
        return steps if stand == wish else None

    def trail(self, rope, start, legs):
        """All stands that legs go through, step by step, the start first; None if a step isn't let."""
        stands = [start]
        for end, place in legs:
            row = self.row(stands[-1][end], place)
            for there in row[1:]:
                if there not in self.free(stands[-1], end):
                    return None
                stands.append(self.let(rope, stands[-1], end, there))
                if stands[-1] is None:
                    return None
        return stands

    # Halts, and all that can be come to.

    def halts(self, rope, stand, wish):
        rows = []
        for end, there in self.steps(rope, stand):
            many = 1
            while not (len(there[0]) == 1 or len(there[1]) == 1 or there == wish):
                ahead = [self.let(rope, there, end, place) for place in self.free(there, end)]
                if ahead == [None]:
                    break
                there = ahead[0]
                many += 1
            rows.append((end, there[0], there[1], many))
        return tuple(sorted(rows))

    def reach(self, rope, start):
        """The fewest steps to each stand that start leads to."""
        far = {start: 0}
        todo = deque([start])
        while todo:
            stand = todo.popleft()
            for end, there in self.steps(rope, stand):
                if there not in far:
                    far[there] = far[stand] + 1
                    todo.append(there)
        return far

    def come_halts(self, rope, start, wish):
        """The start and all halts that halts lead to."""
        found = {start}
        todo = [start]
        while todo:
            for end, tail, head, steps in self.halts(rope, todo.pop(), wish):
                if (tail, head) not in found:
                    found.add((tail, head))
                    todo.append((tail, head))
        return found

    def stretches(self, stands, end):
        """The longest stretches (pipe, low, high) of where an end is."""
        places = {stand[end] for stand in stands}
        rows = []
        for number in range(len(self.house[1])):
            low = None
            line = self.line(number)
            for at, place in enumerate(line + [None]):
                if place in places and low is None:
                    low = at
                if place not in places and low is not None:
                    rows.append((number, low, at - 1))
                    low = None
        return tuple(rows)

    def under_always(self, stands, start):
        """The ends of what lies under the rope in all stands, from the start's tail on."""
        kept = [place for place in self.row(*start) if all(place in self.bits(stand) for stand in stands)]
        return (kept[0], kept[-1]) if kept else None

    # Papers, looked over.

    def table(self, rope, start, wish, thing):
        """The heights of a table, None if it is none: what [14] says, clause by clause."""
        if type(thing) is not tuple or any(type(row) is not tuple or len(row) != 3 for row in thing):
            return None
        for tail, head, height in thing:
            if not is_places(self, (tail, head)) or not self.is_stand(rope, tail, head):
                return None
            if type(height) is not int or height < 0:
                return None
        heights = {(tail, head): height for tail, head, height in thing}
        if list(thing) != sorted(thing) or len(heights) != len(thing) or heights.get(start) != 0:
            return None
        for stand, height in heights.items():
            for end, tail, head, steps in self.halts(rope, stand, wish):
                if (tail, head) not in heights or heights[tail, head] > height + steps:
                    return None
        return heights

    def verdict(self, rope, start, wish, thing):
        """Whether anything is a verdict as [17] says."""
        if type(thing) is not tuple or not thing or type(thing[0]) is not str:
            return False
        if thing[0] == "way" and len(thing) == 3:
            if not is_legs(self, thing[1]):
                return False
            steps, heights = self.way(rope, start, wish, thing[1]), self.table(rope, start, wish, thing[2])
            return steps is not None and heights is not None and wish in heights and heights[wish] == steps
        if thing[0] == "bar" and len(thing) == 2:
            heights = self.table(rope, start, wish, thing[1])
            return heights is not None and wish not in heights
        return False


def is_places(brute, things):
    """Whether all things are places of the house, by their one name, with whole numbers."""
    return all(
        type(thing) is tuple and all(type(number) is int for number in thing) and thing in brute.beside
        for thing in things
    )


def is_legs(brute, thing):
    """Whether anything is a tuple of pairs of an end and a place of the house."""
    if type(thing) is not tuple or any(type(leg) is not tuple or len(leg) != 2 for leg in thing):
        return False
    return all(type(end) is int and end in (TAIL, HEAD) and is_places(brute, (place,)) for end, place in thing)
