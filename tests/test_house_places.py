"""[5], [6] what a place of a house is, and that each one has one name."""

import copy
import unittest

from ropewarren.houses import is_place
from samples import LONG, OTHERS, dice_of, pipe, random_house, spoilt, star

HOUSE = (4, (pipe(1, 3, 12, ((3, 2),), ((5, 1),)), pipe(0, 3, LONG), pipe(0, 2)))


def names_of(house):
    """All places of a house of short pipes."""
    rooms, pipes = house
    inner = [(at, k) for at, row in enumerate(pipes) for k in range(1, row[2])]
    return [(room,) for room in range(rooms)] + inner


class Places(unittest.TestCase):

    def is_one(self, house, *places):
        for place in places:
            self.assertIs(is_place(house, place), True, place)

    def is_none(self, house, *things):
        for thing in things:
            self.assertIs(is_place(house, thing), False, thing)

    def test_rooms(self):
        self.is_one(HOUSE, (0,), (1,), (2,), (3,))
        self.is_none(HOUSE, (4,), (5,), (16,), (-1,), (-4,), (10 ** 39,), (-(10 ** 39),))

    def test_one_room_alone(self):
        self.is_one((1, ()), (0,))
        self.is_none((1, ()), (1,), (-1,), (0, 0), (0, 1), (-1, 1), (-1, 0))

    def test_along_pipes(self):
        self.is_one(HOUSE, *[(0, at) for at in range(1, 12)])
        self.is_one(HOUSE, (1, 1), (1, 2), (1, LONG // 2), (1, LONG - 2), (1, LONG - 1))

    def test_a_pipes_rooms_have_no_other_name(self):
        self.is_none(HOUSE, (0, 0), (0, 12), (1, 0), (1, LONG), (2, 0), (2, 1))

    def test_beyond_a_pipe(self):
        self.is_none(HOUSE, (0, -1), (0, 13), (0, 10 ** 39), (1, LONG + 1), (1, -1), (2, 2), (2, -1))

    def test_pipes_that_are_not_there(self):
        self.is_none(HOUSE, (3, 1), (4, 1), (-1, 1), (-2, 1), (-3, 1), (10 ** 39, 1))

    def test_each_pipe_by_its_own_length(self):
        house = (3, (pipe(0, 1, 2), pipe(0, 2, 5)))
        self.is_one(house, (0, 1), (1, 1), (1, 4))
        self.is_none(house, (0, 2), (0, 4), (1, 5))

    def test_truths(self):
        self.is_none(HOUSE, (True,), (False,), (True, 1), (False, 1), (0, True), (1, True), (0, False))

    def test_lists(self):
        self.is_none(HOUSE, [0], [1], [0, 1], [0, 5], ([0],), ([0], 1), (0, [1]), ((0,),), [(0,)], [[0]])

    def test_shorter_and_longer_tuples(self):
        self.is_none(HOUSE, (), (0, 1, 1), (0, 5, None), (0, 1, 0, 1), ((0, 1),), ((0, 1), (0, 1)))

    def test_other_parts(self):
        for other in (None, "0", "", (), {}, [], "1", (1,), {0: 1}):
            self.is_none(HOUSE, (other,), (other, 1), (0, other), (other, other), (0, 1, other))

    def test_other_things(self):
        for thing in OTHERS:
            held = copy.deepcopy(thing)
            self.is_none(HOUSE, thing)
            self.assertEqual(thing, held)

    def test_just_the_named_places(self):
        for house in (HOUSE[:1] + ((pipe(1, 3, 12), pipe(0, 3, 3), pipe(0, 2)),), star(7, 4), star(16, 2)):
            grid = [(a,) for a in range(-20, 21)] + [(a, b) for a in range(-20, 21) for b in range(-20, 21)]
            told = [place for place in grid if is_place(house, place)]
            self.assertEqual(sorted(told), sorted(names_of(house)))

    def test_any_houses(self):
        dice = dice_of(6)
        for _ in range(500):
            house = random_house(dice)
            held = copy.deepcopy(house)
            self.is_one(house, *[(room,) for room in range(house[0])])
            self.is_none(house, (house[0],), (-1,), (house[0] - 1, 1))
            for number, row in enumerate(house[1]):
                length = row[2]
                self.is_none(house, (number, 0), (number, length), (number, length + 1), (number, -1))
                if length > 1:
                    self.is_one(house, (number, 1), (number, length - 1), (number, dice.randint(1, length - 1)))
            self.assertEqual(house, held)

    def test_changed_places(self):
        dice = dice_of(7)
        house = (4, (pipe(1, 3, 12), pipe(0, 3, 3), pipe(0, 2)))
        names = names_of(house)
        for _ in range(5000):
            thing = list(dice.choice(names))
            at = dice.randrange(len(thing))
            thing[at] = spoilt(dice, thing[at])
            thing = tuple(thing)
            named = thing in names and all(type(part) is int for part in thing)
            self.assertIs(is_place(house, thing), named, thing)


if __name__ == "__main__":
    unittest.main()
