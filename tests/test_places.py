"""[5], [6] places next to one another, the one row between two places, the distance."""

import unittest

from brute import Brute
from far import any_place
from ropewarren.houses import is_place
from ropewarren.places import distance_of, is_between, next_to, place_on
from samples import LONG, dice_of, far_house, path, pipe, small_house, star

# Room 0 in the middle; pipe 1 is numbered the other way about, as seen from there.
HOUSE = (4, (pipe(0, 1, 4), pipe(0, 2, 1), pipe(0, 3, LONG)))
BENT = (4, (pipe(2, 3, 5), pipe(1, 3, 3), pipe(0, 2, 2)))


class ByHand(unittest.TestCase):

    def test_distances(self):
        for one, other, steps in (
            ((0,), (0,), 0), ((0,), (1,), 4), ((1,), (2,), 5), ((2,), (3,), LONG + 1), ((0, 1), (0, 3), 2),
            ((0, 1), (0, 1), 0), ((0, 3), (1,), 1), ((0, 3), (2,), 4), ((0, 1), (2, 7), 8),
            ((2, LONG - 1), (3,), 1), ((2, LONG - 1), (1,), LONG + 3),
        ):
            self.assertEqual(distance_of(HOUSE, one, other), steps)
            self.assertEqual(distance_of(HOUSE, other, one), steps)

    def test_distances_where_pipes_go_either_way(self):
        self.assertEqual(distance_of(BENT, (0,), (1,)), 10)
        self.assertEqual(distance_of(BENT, (2, 1), (1, 1)), 8)
        self.assertEqual(distance_of(BENT, (0, 4), (1, 2)), 2)

    def test_places_on_a_row(self):
        told = [place_on(BENT, (0,), (1,), steps) for steps in range(11)]
        self.assertEqual(told, [
            (0,), (2, 1), (2,), (0, 1), (0, 2), (0, 3), (0, 4), (3,), (1, 2), (1, 1), (1,),
        ])
        back = [place_on(BENT, (1,), (0,), steps) for steps in range(11)]
        self.assertEqual(back, told[::-1])

    def test_places_far_along(self):
        self.assertEqual(place_on(HOUSE, (1,), (3,), 4), (0,))
        self.assertEqual(place_on(HOUSE, (1,), (3,), 5), (2, 1))
        self.assertEqual(place_on(HOUSE, (3,), (1,), LONG - 1), (2, 1))
        self.assertEqual(place_on(HOUSE, (3,), (1,), LONG), (0,))
        self.assertEqual(place_on(HOUSE, (2, 9), (2, LONG - 9), 10 ** 11), (2, 10 ** 11 + 9))
        self.assertEqual(place_on(HOUSE, (2, LONG - 9), (2, 9), 10 ** 11), (2, LONG - 9 - 10 ** 11))

    def test_no_steps_on(self):
        for place in ((0,), (2,), (0, 3), (2, LONG - 1)):
            self.assertEqual(place_on(HOUSE, place, place, 0), place)
            self.assertEqual(place_on(HOUSE, place, (1,), 0), place)

    def test_next_to(self):
        self.assertEqual(next_to(HOUSE, (0,)), ((0, 1), (2,), (2, 1)))
        self.assertEqual(next_to(HOUSE, (1,)), ((0, 3),))
        self.assertEqual(next_to(HOUSE, (2,)), ((0,),))
        self.assertEqual(next_to(HOUSE, (3,)), ((2, LONG - 1),))
        self.assertEqual(next_to(HOUSE, (0, 1)), ((0,), (0, 2)))
        self.assertEqual(next_to(HOUSE, (0, 3)), ((0, 2), (1,)))
        self.assertEqual(next_to(HOUSE, (2, 5)), ((2, 4), (2, 6)))
        self.assertEqual(next_to(BENT, (3,)), ((0, 4), (1, 2)))

    def test_one_room_has_nothing_beside_it(self):
        self.assertEqual(next_to((1, ()), (0,)), ())
        self.assertEqual(distance_of((1, ()), (0,), (0,)), 0)
        self.assertEqual(place_on((1, ()), (0,), (0,), 0), (0,))
        self.assertIs(is_between((1, ()), (0,), (0,), (0,)), True)

    def test_between_counts_the_ends_in(self):
        for place, told in (
            ((1,), True), ((2,), True), ((0,), True), ((0, 1), True), ((0, 3), True), ((3,), False), ((2, 1), False),
        ):
            self.assertIs(is_between(HOUSE, (1,), (2,), place), told, place)
        self.assertIs(is_between(HOUSE, (0, 2), (0, 2), (0, 2)), True)
        self.assertIs(is_between(HOUSE, (0, 2), (0, 2), (0, 1)), False)
        self.assertIs(is_between(HOUSE, (0, 1), (0, 3), (0, 2)), True)
        self.assertIs(is_between(HOUSE, (0, 1), (0, 3), (0,)), False)
        self.assertIs(is_between(HOUSE, (0, 1), (0, 3), (1,)), False)

    def test_flaps_and_narrow_places_do_not_matter(self):
        plain = (3, (pipe(0, 1, 5), pipe(1, 2, 5)))
        full = (3, (pipe(0, 1, 5, ((2, 1),), ((0, 1),)), pipe(1, 2, 5, ((1, 1),), ((3, -1),))))
        self.assertEqual(distance_of(full, (0,), (2,)), distance_of(plain, (0,), (2,)))
        self.assertEqual(next_to(full, (0, 2)), next_to(plain, (0, 2)))


class Small(unittest.TestCase):

    def check(self, house):
        brute = Brute(house)
        for one in brute.places:
            beside = next_to(house, one)
            self.assertIs(type(beside), tuple)
            self.assertEqual(beside, tuple(sorted(brute.beside[one])), (house, one))
            for other in brute.places:
                row = brute.row(one, other)
                self.assertEqual(distance_of(house, one, other), len(row) - 1, (house, one, other))
                told = [place_on(house, one, other, steps) for steps in range(len(row))]
                self.assertEqual(told, row, house)
                between = [place for place in brute.places if is_between(house, one, other, place)]
                self.assertEqual(between, sorted(row), (house, one, other))

    def test_any_small_houses(self):
        dice = dice_of(6)
        for _ in range(60):
            self.check(small_house(dice))

    def test_rows_and_stars(self):
        for rooms in range(1, 7):
            for length in (1, 2, 4) if rooms < 5 else (1, 2):
                self.check(path(rooms, length))
                self.check(star(rooms, length))


class Far(unittest.TestCase):

    def test_far_houses(self):
        dice = dice_of(7)
        for _ in range(150):
            house = far_house(dice)
            for _ in range(6):
                self.check(house, any_place(dice, house), any_place(dice, house), dice)

    def check(self, house, one, other, dice):
        steps = distance_of(house, one, other)
        self.assertIs(type(steps), int)
        self.assertEqual(distance_of(house, other, one), steps)
        self.assertEqual(steps == 0, one == other)
        self.assertEqual(place_on(house, one, other, steps), other)
        for gone in {0, steps, steps // 2, min(1, steps), dice.randint(0, steps)}:
            place = place_on(house, one, other, gone)
            self.assertIs(is_place(house, place), True)
            self.assertEqual(distance_of(house, one, place), gone)
            self.assertEqual(distance_of(house, place, other), steps - gone)
            self.assertEqual(place_on(house, other, one, steps - gone), place)
            self.assertIs(is_between(house, one, other, place), True)
            for beside in next_to(house, place):
                self.assertEqual(distance_of(house, place, beside), 1)
                on = beside in (
                    place_on(house, one, other, max(0, gone - 1)), place_on(house, one, other, min(steps, gone + 1)),
                )
                self.assertIs(is_between(house, one, other, beside), on)

    def test_across_fifteen_long_pipes(self):
        house = path(16, LONG)
        self.assertEqual(distance_of(house, (0,), (15,)), 15 * LONG)
        self.assertEqual(place_on(house, (0,), (15,), 7 * LONG + 3), (7, 3))
        self.assertEqual(place_on(house, (15,), (0,), 7 * LONG + 3), (7, LONG - 3))
        self.assertEqual(place_on(house, (0,), (15,), 9 * LONG), (9,))
        self.assertEqual(next_to(star(16, LONG), (0,)), tuple((number, 1) for number in range(15)))


if __name__ == "__main__":
    unittest.main()
