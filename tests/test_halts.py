"""[13] halts."""

import unittest

from brute import HEAD, TAIL, Brute
from far import any_stand
from ropewarren.errors import WarrenError
from ropewarren.halts import halts
from ropewarren.places import distance_of, place_on
from ropewarren.pulls import pulled
from ropewarren.ropes import is_stand
from samples import LONG, dice_of, far_house, knots_for, path, pipe, small_house, star


class ByHand(unittest.TestCase):

    def check(self, house, rope, stand, wish, told):
        self.assertEqual(halts(house, rope, stand, wish), told)
        self.assertEqual(halts(house, rope, stand, wish), told)

    def test_along_one_pipe(self):
        house = path(2, LONG)
        stand = ((0, 4), (0, 7))
        self.check(house, (3, ()), stand, stand, (
            (TAIL, (0,), (0, 3), 4), (HEAD, (0, LONG - 3), (1,), LONG - 7),
        ))
        self.check(house, (3, ()), ((0,), (0, 3)), stand, ((HEAD, (0, 4), (0, 7), 4),))
        self.check(house, (LONG, ()), ((0,), (1,)), ((0,), (1,)), ())

    def test_either_end_at_a_room(self):
        house = path(4, 5)
        stand = ((0, 3), (1, 2))
        self.check(house, (4, ()), stand, stand, ((TAIL, (0, 1), (1,), 2), (HEAD, (1,), (1, 4), 2)))
        self.check(house, (7, ()), ((0, 3), (2,)), ((0, 3), (2,)), (
            (TAIL, (0,), (1, 2), 3), (HEAD, (1,), (2, 2), 2),
        ))

    def test_each_pipe_of_a_room(self):
        house = star(4, 9)
        stand = ((0, 4), (0,))
        self.check(house, (4, ()), stand, stand, (
            (TAIL, (1,), (0, 5), 5), (HEAD, (0,), (1, 4), 4), (HEAD, (0,), (2, 4), 4),
        ))

    def test_the_wish_on_the_way(self):
        house = star(4, 9)
        stand = ((0, 4), (0,))
        self.check(house, (4, ()), stand, ((0, 1), (2, 3)), (
            (TAIL, (1,), (0, 5), 5), (HEAD, (0,), (1, 4), 4), (HEAD, (0, 1), (2, 3), 3),
        ))
        self.check(house, (4, ()), stand, ((0, 6), (0, 2)), (
            (TAIL, (0, 6), (0, 2), 2), (HEAD, (0,), (1, 4), 4), (HEAD, (0,), (2, 4), 4),
        ))

    def test_a_wish_that_lies_the_other_way_about_is_none(self):
        house = path(2, 9)
        self.check(house, (3, ()), ((0,), (0, 3)), ((0, 6), (0, 3)), ((HEAD, (0, 6), (1,), 6),))

    def test_flaps(self):
        house = (2, (pipe(0, 1, LONG, (), ((700, -1),)),))
        stand = ((0, 4), (0, 7))
        self.check(house, (3, ()), stand, stand, ((TAIL, (0,), (0, 3), 4), (HEAD, (0, 697), (0, 700), 693)))
        stand = ((0, 697), (0, 700))
        self.check(house, (3, ()), stand, stand, ((TAIL, (0,), (0, 3), 697),))
        stand = ((0, 699), (0, 702))
        self.check(house, (3, ()), stand, stand, ((TAIL, (0,), (0, 3), 699),))
        stand = ((0, 701), (0, 704))
        self.check(house, (3, ()), stand, stand, (
            (TAIL, (0,), (0, 3), 701), (HEAD, (0, LONG - 3), (1,), LONG - 704),
        ))

    def test_between_two_flaps_against_one_another(self):
        house = (2, (pipe(0, 1, 20, (), ((8, 1), (11, -1))),))
        stand = ((0, 8), (0, 12))
        self.check(house, (4, ()), stand, stand, ())
        stand = ((0, 9), (0, 10))
        self.check(house, (1, ()), stand, stand, ((HEAD, (0, 10), (0, 11), 1),))

    def test_narrow_places(self):
        house = (2, (pipe(0, 1, LONG, ((700, 1), (900, 2))),))
        rope = (3, ((1, 2), (2, 3)))
        stand = ((0, 4), (0, 7))
        self.check(house, rope, stand, stand, ((TAIL, (0,), (0, 3), 4), (HEAD, (0, 697), (0, 700), 693)))
        stand = ((0, 700), (0, 703))
        self.check(house, rope, stand, stand, ((HEAD, (0, 898), (0, 901), 198),))
        stand = ((0, 898), (0, 901))
        self.check(house, rope, stand, stand, ((TAIL, (0, 700), (0, 703), 198),))

    def test_a_wish_behind_a_bar_is_no_halt(self):
        house = (2, (pipe(0, 1, LONG, (), ((700, -1),)),))
        self.check(house, (3, ()), ((0, 4), (0, 7)), ((0, 800), (0, 803)), (
            (TAIL, (0,), (0, 3), 4), (HEAD, (0, 697), (0, 700), 693),
        ))


class Small(unittest.TestCase):

    def test_small_houses(self):
        dice = dice_of(23)
        rows = met = 0
        for _ in range(400):
            house = small_house(dice, rooms=(2, 6), longest=6, narrows=4, flaps=3)
            brute = Brute(house)
            length = dice.randint(1, 6)
            rope = (length, knots_for(dice, length))
            stands = brute.stands(rope)
            for stand in stands:
                for wish in (stand, dice.choice(stands), dice.choice(stands)):
                    told = halts(house, rope, stand, wish)
                    self.assertEqual(told, brute.halts(rope, stand, wish), (house, rope, stand, wish))
                    rows += len(told)
                    met += any(row[1:3] == wish for row in told)
        self.assertGreater(rows, 8000)
        self.assertGreater(met, 500)


class Far(unittest.TestCase):

    def test_far_houses(self):
        dice = dice_of(24)
        rows = 0
        for _ in range(400):
            house = far_house(dice)
            rope, stand = any_stand(dice, house)
            told = halts(house, rope, stand, stand)
            self.assertIs(type(told), tuple)
            self.assertEqual(told, tuple(sorted(set(told))))
            for row in told:
                self.assertIs(type(row), tuple)
                self.check(dice, house, rope, stand, row)
                rows += 1
        self.assertGreater(rows, 300)

    def check(self, dice, house, rope, stand, row):
        end, tail, head, steps = row
        place = (tail, head)[end]
        self.assertEqual(pulled(house, rope, stand, end, place), (tail, head))
        self.assertEqual(distance_of(house, stand[end], place), steps)
        if steps > 1:
            self.check_midway(dice, house, rope, stand, row)
        if len(tail) == 2 and len(head) == 2:
            beyond = self.one_on(house, (tail, head), end)
            with self.assertRaises(WarrenError):
                pulled(house, rope, (tail, head), end, beyond)

    def check_midway(self, dice, house, rope, stand, row):
        """Midway there is no room at either end, and a wish that lies there is the halt."""
        end, tail, head, steps = row
        place = (tail, head)[end]
        for gone in {1, steps - 1, dice.randint(1, steps - 1)}:
            midway = pulled(house, rope, stand, end, place_on(house, stand[end], place, gone))
            self.assertIs(is_stand(house, rope, midway), True)
            self.assertEqual((len(midway[0]), len(midway[1])), (2, 2))
            self.assertIn((end, *midway, gone), halts(house, rope, stand, midway))
            self.assertNotIn(row, halts(house, rope, stand, midway))
            self.assertIn((end, tail, head, steps - gone), halts(house, rope, midway, stand))

    def one_on(self, house, stand, end):
        """The place one step on from an end within a pipe."""
        pipe_of, at = stand[end]
        length = house[1][pipe_of][2]
        behind = place_on(house, stand[end], stand[1 - end], 1)
        on = at + 1 if behind == ((pipe_of, at - 1) if at > 1 else (house[1][pipe_of][0],)) else at - 1
        if on in (0, length):
            return (house[1][pipe_of][0 if on == 0 else 1],)
        return (pipe_of, on)


if __name__ == "__main__":
    unittest.main()
