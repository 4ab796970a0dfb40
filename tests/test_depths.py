"""[22] arms and depths; [21], [23], [27] the longest rope for which a lot turns."""

import unittest

from brute import Brute
from far import any_place
from ropewarren.depths import depth, long_arms, longest
from ropewarren.errors import Flapped
from ropewarren.places import distance_of, next_to
from samples import LONG, dice_of, far_house, path, pipe, small_house, star
from scaled import scaled_house, scaled_place

HOUSE = (6, (pipe(0, 1, 5), pipe(0, 2, 3), pipe(0, 3, 8), pipe(3, 4, 2), pipe(3, 5, 4)))


class Depths(unittest.TestCase):

    def test_by_hand(self):
        for place, beside, told in (
            ((0,), (0, 1), 5), ((0,), (1, 1), 3), ((0,), (2, 1), 12), ((1,), (0, 4), 17), ((0, 2), (0, 1), 14),
            ((0, 2), (0, 3), 3), ((0, 4), (1,), 1), ((3,), (2, 7), 13), ((3,), (3, 1), 2), ((3,), (4, 1), 4),
            ((2, 4), (2, 3), 9), ((2, 4), (2, 5), 8), ((3, 1), (4,), 1), ((3, 1), (3,), 14), ((4,), (3, 1), 15),
        ):
            self.assertEqual(depth(HOUSE, place, beside), told, (place, beside))

    def test_long_arms_by_hand(self):
        for place, length, told in (
            ((0,), 1, ((0, 1), (1, 1), (2, 1))), ((0,), 3, ((0, 1), (1, 1), (2, 1))), ((0,), 4, ((0, 1), (2, 1))),
            ((0,), 5, ((0, 1), (2, 1))), ((0,), 6, ((2, 1),)), ((0,), 12, ((2, 1),)), ((0,), 13, ()),
            ((2, 4), 8, ((2, 3), (2, 5))), ((2, 4), 9, ((2, 3),)), ((2, 4), 10, ()), ((3, 1), 1, ((3,), (4,))),
            ((1,), 17, ((0, 4),)), ((1,), 18, ()), ((1,), 10 ** 14, ()),
        ):
            self.assertEqual(long_arms(HOUSE, length, place), told, (place, length))

    def test_one_room_has_no_arms(self):
        self.assertEqual(long_arms((1, ()), 1, (0,)), ())

    def test_flaps_and_narrow_places_do_not_matter(self):
        full = (6, tuple(
            (one, other, length, ((1, 1),), ((0, 1),)) for one, other, length, narrows, flaps in HOUSE[1]
        ))
        self.assertEqual(depth(full, (2, 4), (2, 3)), 9)
        self.assertEqual(long_arms(full, 3, (0,)), ((0, 1), (1, 1), (2, 1)))

    def test_small_houses(self):
        dice = dice_of(43)
        for _ in range(120):
            house = small_house(dice)
            brute = Brute(house)
            for place in brute.places:
                deep = {beside: brute.depth(place, beside) for beside in brute.beside[place]}
                for beside in deep:
                    self.assertEqual(depth(house, place, beside), deep[beside], (house, place, beside))
                for length in {1, 2} | set(deep.values()) | {each + 1 for each in deep.values()}:
                    told = long_arms(house, length, place)
                    self.assertIs(type(told), tuple)
                    expected = tuple(sorted(beside for beside in deep if deep[beside] >= length))
                    self.assertEqual(told, expected, (house, place, length))

    def test_far_houses(self):
        dice = dice_of(44)
        for _ in range(100):
            house = far_house(dice)
            rooms = [(room,) for room in range(16)]
            for _ in range(5):
                place = any_place(dice, house)
                for beside in next_to(house, place):
                    told = depth(house, place, beside)
                    far = [distance_of(house, beside, room) + 1 for room in rooms
                           if distance_of(house, place, room) == distance_of(house, beside, room) + 1]
                    self.assertEqual(told, max(far))
                    self.assertIn(beside, long_arms(house, told, place))
                    self.assertNotIn(beside, long_arms(house, told + 1, place))

    def test_small_houses_made_large(self):
        dice = dice_of(45)
        by = LONG // 4
        for _ in range(50):
            house = small_house(dice, rooms=(2, 6))
            brute = Brute(house)
            place = dice.choice(brute.places)
            large, spot = scaled_house(house, by), scaled_place(place, by)
            deep = sorted(brute.depth(place, beside) * by for beside in brute.beside[place])
            self.assertEqual(sorted(depth(large, spot, beside) for beside in next_to(large, spot)), deep)


def turns(brute, length):
    """Whether a rope of that length comes from some stand to that stand turned about, by all steps gone through."""
    return any(stand[::-1] in brute.reach((length, ()), stand) for stand in brute.stands((length, ())))


class Longest(unittest.TestCase):

    def test_by_hand(self):
        for house, told in (
            ((1, ()), 0), (path(2, 9), 0), (path(16, LONG), 0), (star(3, 9), 0), (star(4, 1), 1), (star(4, 7), 7),
            (star(16, LONG), LONG), (HOUSE, 3), ((4, (pipe(0, 1, 9), pipe(0, 2, 4), pipe(0, 3, 6))), 4),
            ((4, (pipe(0, 3, 9), pipe(1, 3, 4), pipe(2, 3, 6))), 4),
            ((5, (pipe(0, 1, 9), pipe(0, 2, 4), pipe(0, 3, 6), pipe(0, 4, 5))), 5),
        ):
            self.assertEqual(longest(house), told, house)

    def test_arms_of_several_pipes(self):
        house = (7, (
            pipe(0, 1, LONG), pipe(1, 2, LONG), pipe(0, 3, LONG), pipe(3, 4, 5), pipe(0, 5, 1), pipe(5, 6, LONG),
        ))
        self.assertEqual(longest(house), LONG + 1)

    def test_narrow_places_do_not_matter(self):
        self.assertEqual(longest((4, tuple(pipe(0, room, 7, ((3, 1),)) for room in (1, 2, 3)))), 7)

    def test_flapped_ahead_of_all_else(self):
        for house in (
            (2, (pipe(0, 1, 9, (), ((3, 1),)),)), (4, (pipe(0, 1, 9), pipe(0, 2, 4), pipe(0, 3, 6, (), ((0, -1),)))),
            (3, (pipe(0, 1, 1, (), ((0, -1),)), pipe(0, 2, 4))),
        ):
            with self.assertRaises(Flapped) as caught:
                longest(house)
            self.assertIs(type(caught.exception), Flapped)

    def test_small_houses(self):
        dice = dice_of(46)
        found = 0
        for _ in range(300):
            house = small_house(dice, flaps=0)
            brute = Brute(house)
            lengths = [
                length for length in range(1, 22)
                if any(len(brute.long_arms(length, place)) >= 3 for place in brute.places)
            ]
            self.assertEqual(longest(house), max(lengths, default=0), house)
            found += bool(lengths)
        self.assertGreater(found, 60)

    def test_ropes_that_turn_about(self):
        dice = dice_of(47)
        for _ in range(60):
            house = small_house(dice, rooms=(1, 6), longest=3, flaps=0)
            brute = Brute(house)
            told = longest(house)
            if told:
                self.assertTrue(turns(brute, told), house)
            self.assertFalse(turns(brute, told + 1), house)

    def test_small_houses_made_large(self):
        dice = dice_of(48)
        for _ in range(100):
            house = small_house(dice, flaps=0)
            self.assertEqual(longest(scaled_house(house, LONG // 4)), longest(house) * (LONG // 4))


if __name__ == "__main__":
    unittest.main()
