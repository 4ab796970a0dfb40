"""[4] what a house is; [2] that is_house takes anything and changes nothing."""

import copy
import unittest

from ropewarren.houses import is_house
from samples import (
    LONG, OTHERS, WIDE, dice_of, part_at, parts_of, path, pipe, put, random_house, spoilt_house, star, with_flaps,
    with_narrows,
)

SAMPLE = (4, (
    pipe(1, 3, 12, ((3, 2), (7, 1)), ((5, 1), (9, -1))),
    pipe(0, 3, LONG, ((1, WIDE), (LONG - 1, 1)), ((0, -1), (LONG - 1, 1))),
    pipe(0, 2),
))


def whole(thing):
    return type(thing) is int


def rises(pairs):
    return all(before < behind for before, behind in zip(pairs, pairs[1:]))


def pairs_hold(pairs, ats, second):
    if type(pairs) is not tuple or any(type(pair) is not tuple or len(pair) != 2 for pair in pairs):
        return False
    if not all(whole(at) and at in ats and whole(other) and second(other) for at, other in pairs):
        return False
    return rises(pairs) and len({at for at, other in pairs}) == len(pairs)


def pipe_holds(rooms, thing):
    if type(thing) is not tuple or len(thing) != 5 or not all(whole(part) for part in thing[:3]):
        return False
    one, other, length, narrows, flaps = thing
    return (
        0 <= one < other < rooms and 1 <= length <= LONG
        and pairs_hold(narrows, range(1, length), lambda width: 1 <= width <= WIDE)
        and pairs_hold(flaps, range(length), lambda way: abs(way) == 1)
    )


def come_to(pipes):
    """The rooms that room 0 is joined to, by going on till nothing is new."""
    rooms = {0}
    while True:
        more = rooms | {room for row in pipes for room in row[:2] if rooms & set(row[:2])}
        if more == rooms:
            return rooms
        rooms = more


def house_holds(thing):
    """The clauses of [4] once more, written in another way."""
    if type(thing) is not tuple or len(thing) != 2 or not whole(thing[0]) or type(thing[1]) is not tuple:
        return False
    rooms, pipes = thing
    if not 1 <= rooms <= 16 or len(pipes) != rooms - 1 or not all(pipe_holds(rooms, row) for row in pipes):
        return False
    if len(come_to(pipes)) != rooms:
        return False
    return sum(len(row[3]) for row in pipes) <= 12 and sum(len(row[4]) for row in pipes) <= 6


class Cases(unittest.TestCase):

    def is_one(self, *houses):
        for house in houses:
            self.assertIs(is_house(house), True, house)

    def is_none(self, *things):
        for thing in things:
            self.assertIs(is_house(thing), False, thing)


class Rooms(Cases):

    def test_one_room(self):
        self.is_one((1, ()))

    def test_one_to_sixteen(self):
        for rooms in range(1, 17):
            self.is_one(path(rooms), star(rooms), path(rooms, LONG), star(rooms, LONG))

    def test_none_and_seventeen(self):
        self.is_none((0, ()), (-1, ()), path(17), star(17), (10 ** 39, ()))

    def test_one_below_other(self):
        self.is_one((2, (pipe(0, 1),)))
        self.is_none((2, (pipe(1, 0),)), (2, (pipe(0, 0),)), (2, (pipe(1, 1),)))
        self.is_none((3, (pipe(0, 1), pipe(2, 1))))

    def test_rooms_that_are_not_there(self):
        self.is_none((2, (pipe(0, 2),)), (2, (pipe(-1, 1),)), (2, (pipe(-1, 0),)), (3, (pipe(0, 1), pipe(1, 3))))

    def test_any_order_of_pipes(self):
        self.is_one((4, (pipe(2, 3), pipe(0, 1), pipe(1, 3))), (4, (pipe(0, 3), pipe(1, 3), pipe(2, 3))))
        self.is_one((5, (pipe(0, 1), pipe(2, 3), pipe(0, 4), pipe(3, 4))))

    def test_all_are_joined(self):
        self.is_none((3, (pipe(0, 1), pipe(0, 1))), (4, (pipe(0, 1), pipe(1, 2), pipe(0, 2))))
        self.is_none((4, (pipe(1, 2), pipe(2, 3), pipe(1, 3))))
        self.is_none((5, (pipe(0, 1), pipe(2, 3), pipe(3, 4), pipe(2, 4))))

    def test_too_many_and_too_few_pipes(self):
        self.is_none((1, (pipe(0, 1),)), (2, ()), (3, (pipe(0, 1),)), (2, (pipe(0, 1), pipe(0, 1))))
        self.is_none((3, (pipe(0, 1), pipe(1, 2), pipe(0, 2))))


class Lengths(Cases):

    def test_bounds(self):
        self.is_one(path(2, 1), path(2, 2), path(2, LONG - 1), path(2, LONG))
        self.is_none(path(2, 0), path(2, -1), path(2, LONG + 1), path(2, 10 ** 39))


class NarrowPlaces(Cases):

    def test_at(self):
        self.is_one(with_narrows((1, 5)), with_narrows((99, 5)), with_narrows((1, 5), length=2))
        self.is_none(with_narrows((0, 5)), with_narrows((100, 5)), with_narrows((101, 5)), with_narrows((-1, 5)))
        self.is_none(with_narrows((1, 5), length=1), with_narrows((0, 5), length=1))
        self.is_one(with_narrows((LONG - 1, 5), length=LONG))
        self.is_none(with_narrows((LONG, 5), length=LONG))

    def test_width(self):
        self.is_one(with_narrows((3, 1)), with_narrows((3, WIDE)))
        self.is_none(with_narrows((3, 0)), with_narrows((3, -1)), with_narrows((3, WIDE + 1)))

    def test_rising(self):
        self.is_one(with_narrows((3, 9), (4, 1), (99, 5)))
        self.is_none(with_narrows((4, 1), (3, 9)), with_narrows((3, 1), (9, 1), (4, 1)))

    def test_no_at_twice(self):
        self.is_none(with_narrows((3, 1), (3, 2)), with_narrows((3, 2), (3, 1)), with_narrows((3, 1), (3, 1)))

    def test_how_many_in_one_pipe(self):
        rows = tuple((at, 1) for at in range(1, 14))
        self.is_one(with_narrows(*rows[:12]))
        self.is_none(with_narrows(*rows))

    def test_how_many_in_all_pipes(self):
        rows = tuple((at, 1) for at in range(1, 8))
        self.is_one((3, (pipe(0, 1, 9, rows[:6]), pipe(1, 2, 9, rows[:6]))))
        self.is_one((3, (pipe(0, 1, 9, rows), pipe(1, 2, 9, rows[:5]))))
        self.is_none((3, (pipe(0, 1, 9, rows), pipe(1, 2, 9, rows[:6]))))
        self.is_none((14, tuple(pipe(0, room, 2, ((1, 1),)) for room in range(1, 14))))
        self.is_one((13, tuple(pipe(0, room, 2, ((1, 1),)) for room in range(1, 13))))


class Flaps(Cases):

    def test_at(self):
        self.is_one(with_flaps((0, 1)), with_flaps((99, 1)), with_flaps((0, -1), length=1))
        self.is_none(with_flaps((-1, 1)), with_flaps((100, 1)), with_flaps((1, 1), length=1))
        self.is_one(with_flaps((LONG - 1, -1), length=LONG))
        self.is_none(with_flaps((LONG, -1), length=LONG))

    def test_way(self):
        self.is_one(with_flaps((3, 1)), with_flaps((3, -1)))
        self.is_none(with_flaps((3, 0)), with_flaps((3, 2)), with_flaps((3, -2)), with_flaps((3, True)))
        self.is_none(with_flaps((3, "1")), with_flaps((3, None)), with_flaps((3, (1,))), with_flaps((3, [1])))

    def test_rising(self):
        self.is_one(with_flaps((3, 1), (4, -1), (99, 1)))
        self.is_none(with_flaps((4, 1), (3, 1)), with_flaps((3, 1), (9, 1), (4, 1)))

    def test_no_at_twice(self):
        self.is_none(with_flaps((3, -1), (3, 1)), with_flaps((3, 1), (3, -1)), with_flaps((3, 1), (3, 1)))

    def test_how_many_in_one_pipe(self):
        rows = tuple((at, 1) for at in range(7))
        self.is_one(with_flaps(*rows[:6]))
        self.is_none(with_flaps(*rows))

    def test_how_many_in_all_pipes(self):
        rows = ((0, 1), (1, -1), (2, 1), (3, 1))
        self.is_one((3, (pipe(0, 1, 9, (), rows[:3]), pipe(1, 2, 9, (), rows[:3]))))
        self.is_one((3, (pipe(0, 1, 9, (), rows), pipe(1, 2, 9, (), rows[:2]))))
        self.is_none((3, (pipe(0, 1, 9, (), rows), pipe(1, 2, 9, (), rows[:3]))))
        self.is_none((8, tuple(pipe(0, room, 1, (), ((0, 1),)) for room in range(1, 8))))

    def test_a_flap_may_lie_at_a_narrow_place(self):
        self.is_one((2, (pipe(0, 1, 9, ((3, 1),), ((2, 1), (3, -1))),)))

    def test_both_at_their_most(self):
        narrows = tuple((at, at) for at in range(1, 13))
        flaps = tuple((at, -1) for at in range(6))
        self.is_one((2, (pipe(0, 1, 13, narrows, flaps),)))


class Forms(Cases):

    def test_the_sample_is_one(self):
        self.is_one(SAMPLE)

    def test_lists_in_the_place_of_tuples(self):
        for path_to in parts_of(SAMPLE):
            part = part_at(SAMPLE, path_to)
            if isinstance(part, tuple):
                self.is_none(put(SAMPLE, path_to, list(part)))

    def test_truths_in_the_place_of_numbers(self):
        for path_to in parts_of(SAMPLE):
            if isinstance(part_at(SAMPLE, path_to), int):
                self.is_none(put(SAMPLE, path_to, True), put(SAMPLE, path_to, False))

    def test_truths_that_equal_the_numbers(self):
        self.is_none((True, ()), (2, ((False, 1, 1, (), ()),)), (2, ((0, True, 1, (), ()),)))
        self.is_none((2, ((0, 1, True, (), ()),)), with_narrows((True, 1)), with_narrows((1, True)))
        self.is_none(with_flaps((False, 1)), with_flaps((0, True)))

    def test_tuples_of_a_wrong_length(self):
        for path_to in parts_of(SAMPLE):
            part = part_at(SAMPLE, path_to)
            if isinstance(part, tuple) and len(path_to) in (0, 1, 2, 4):
                self.is_none(put(SAMPLE, path_to, part[:-1]), put(SAMPLE, path_to, part + part[-1:]))
                self.is_none(put(SAMPLE, path_to, part[1:]), put(SAMPLE, path_to, part + (0,)))
                self.is_none(put(SAMPLE, path_to, part + (None,)))
        self.is_none((), (1,), (1, (), ()))

    def test_other_things_in_the_place_of_each_part(self):
        others = (None, "", "1", "0 1", {}, {0: 1}, [], "()", (None,), [[]], {"a": ()})
        for path_to in parts_of(SAMPLE):
            for other in others:
                self.is_none(put(SAMPLE, path_to, other))

    def test_other_things(self):
        for thing in OTHERS:
            held = copy.deepcopy(thing)
            self.is_none(thing)
            self.assertEqual(thing, held)


class Many(unittest.TestCase):

    def test_any_houses(self):
        dice = dice_of(4)
        for _ in range(2000):
            house = random_house(dice)
            self.assertIs(is_house(house), True, house)

    def test_changed_houses(self):
        dice = dice_of(5)
        answers = {True: 0, False: 0}
        for _ in range(10000):
            thing = spoilt_house(dice)
            held = copy.deepcopy(thing)
            told = is_house(thing)
            self.assertIs(told, house_holds(thing), thing)
            self.assertIs(is_house(thing), told)
            self.assertEqual(thing, held)
            answers[told] += 1
        self.assertGreater(min(answers.values()), 500)


if __name__ == "__main__":
    unittest.main()
