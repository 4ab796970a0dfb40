"""[9], [10] steps and legs, and what they are refused with; [12] legs taken back; [3] (e)."""

import copy
import unittest

from brute import HEAD, TAIL, Brute
from far import any_stand, room_beyond
from ropewarren.errors import Back, NoEnd, NoPlace, Shut, Stuck, WarrenError
from ropewarren.places import distance_of, next_to, place_on
from ropewarren.pulls import pulled
from ropewarren.ropes import is_stand
from samples import LONG, OTHERS, dice_of, far_house, knots_for, path, pipe, small_house, star

FIELDS = {
    "NoEnd": ("end",), "NoPlace": ("place",), "Back": ("place",), "Shut": ("pipe", "at"), "Stuck": ("knot",),
}


def told_of(house, rope, stand, end, place):
    """What pulled tells as Brute.leg does: ("stand", stand), or the name and fields of the refusal."""
    try:
        return ("stand", pulled(house, rope, stand, end, place))
    except WarrenError as error:
        name = type(error).__name__
        return (name, *[getattr(error, field) for field in FIELDS[name]])


class ByHand(unittest.TestCase):

    def check(self, house, rope, stand, end, place, told):
        self.assertEqual(told_of(house, rope, stand, end, place), told)
        self.assertEqual(told_of(house, rope, stand, end, place), told)

    def test_either_end(self):
        house = path(3, 4)
        self.check(house, (3, ()), ((0, 1), (1,)), HEAD, (1, 2), ("stand", ((0, 3), (1, 2))))
        self.check(house, (3, ()), ((0, 1), (1,)), HEAD, (2,), ("stand", ((1, 1), (2,))))
        self.check(house, (3, ()), ((0, 1), (1,)), TAIL, (0,), ("stand", ((0,), (0, 3))))
        self.check(house, (3, ()), ((1,), (0, 1)), TAIL, (1, 2), ("stand", ((1, 2), (0, 3))))

    def test_round_a_corner(self):
        house = star(4, LONG)
        stand = ((0, LONG - 5), (1, 5))
        self.check(house, (LONG, ()), stand, HEAD, (2,), ("stand", ((0,), (2,))))
        self.check(house, (LONG, ()), ((0, 5), (0,)), HEAD, (1, 1), ("Back", (1, 1)))
        self.check(house, (5, ()), ((0, 5), (0,)), HEAD, (2, 9), ("stand", ((2, 4), (2, 9))))
        self.check(house, (5, ()), ((0, 5), (0,)), TAIL, (1,), ("stand", ((1,), (0, LONG - 5))))

    def test_back(self):
        house = star(4, 5)
        stand = ((0, 2), (1, 2))
        for end, place in (
            (HEAD, (1, 2)), (HEAD, (1, 1)), (HEAD, (0,)), (HEAD, (0, 2)), (HEAD, (0, 3)), (HEAD, (1,)),
            (HEAD, (3,)), (HEAD, (2, 4)), (TAIL, (0, 2)), (TAIL, (0,)), (TAIL, (1, 2)), (TAIL, (2,)), (TAIL, (3,)),
        ):
            self.check(house, (4, ()), stand, end, place, ("Back", place))
        self.check(house, (4, ()), stand, HEAD, (2,), ("stand", ((1, 1), (2,))))

    def test_flaps_ahead_under_and_behind(self):
        # The rope lies from 3 to 6: over what is between 3 and 4, 4 and 5, 5 and 6.
        stand = ((0, 3), (0, 6))
        for at, forth, back in (
            (0, "stand", "Shut"), (2, "stand", "Shut"), (3, "Shut", "Shut"), (5, "Shut", "Shut"),
            (6, "Shut", "stand"), (8, "Shut", "stand"),
        ):
            against = (2, (pipe(0, 1, 9, (), ((at, -1),)),))
            told = ("stand", ((0, 6), (1,))) if forth == "stand" else ("Shut", 0, at)
            self.check(against, (3, ()), stand, HEAD, (1,), told)
            self.check(against, (3, ()), stand, TAIL, (0,), ("stand", ((0,), (0, 3))))
            along = (2, (pipe(0, 1, 9, (), ((at, 1),)),))
            told = ("stand", ((0,), (0, 3))) if back == "stand" else ("Shut", 0, at)
            self.check(along, (3, ()), stand, TAIL, (0,), told)
            self.check(along, (3, ()), stand, HEAD, (1,), ("stand", ((0, 6), (1,))))

    def test_up_to_a_flap(self):
        house = (2, (pipe(0, 1, LONG, (), ((700, -1),)),))
        self.check(house, (3, ()), ((0, 1), (0, 4)), HEAD, (0, 700), ("stand", ((0, 697), (0, 700))))
        self.check(house, (3, ()), ((0, 1), (0, 4)), HEAD, (0, 701), ("Shut", 0, 700))
        self.check(house, (3, ()), ((0, 1), (0, 4)), HEAD, (1,), ("Shut", 0, 700))
        self.check(house, (3, ()), ((0, 697), (0, 700)), HEAD, (0, 701), ("Shut", 0, 700))
        self.check(house, (3, ()), ((0, 698), (0, 701)), HEAD, (0, 702), ("Shut", 0, 700))
        self.check(house, (3, ()), ((0, 700), (0, 703)), HEAD, (0, 704), ("Shut", 0, 700))
        self.check(house, (3, ()), ((0, 701), (0, 704)), HEAD, (1,), ("stand", ((0, LONG - 3), (1,))))

    def test_up_to_a_narrow_place(self):
        house = (2, (pipe(0, 1, LONG, ((700, 4),)),))
        for behind, size, told in (
            (0, 5, ("Stuck", 0)), (0, 4, ("stand", ((0, 698), (0, 701)))), (1, 5, ("Stuck", 0)),
            (2, 5, ("stand", ((0, 698), (0, 701)))), (3, 9, ("stand", ((0, 698), (0, 701)))),
        ):
            self.check(house, (3, ((behind, size),)), ((0, 1), (0, 4)), HEAD, (0, 701), told)
        self.check(house, (3, ((0, 5),)), ((0, 1), (0, 4)), HEAD, (0, 699), ("stand", ((0, 696), (0, 699))))
        self.check(house, (3, ((2, 5),)), ((0, 1), (0, 4)), HEAD, (0, 702), ("Stuck", 0))
        self.check(house, (3, ((0, 5),)), ((0, 800), (0, 803)), TAIL, (0, 698), ("stand", ((0, 698), (0, 701))))
        self.check(house, (3, ((0, 5),)), ((0, 800), (0, 803)), TAIL, (0, 697), ("Stuck", 0))

    def test_the_first_of_several_flaps(self):
        house = (3, (pipe(0, 1, 9, (), ((2, -1), (5, -1))), pipe(1, 2, 9, (), ((1, -1),))))
        # Both lie under the rope, so neither lets the first step.
        self.check(house, (6, ()), ((0, 2), (0, 8)), HEAD, (1,), ("Shut", 0, 2))
        self.check(house, (6, ()), ((0, 3), (1,)), HEAD, (1, 5), ("Shut", 0, 5))
        # Pulled from the far side, the one that is met first is told, not the one with the lower number.
        mirror = (3, (pipe(0, 1, 9, (), ((2, 1), (5, 1))), pipe(1, 2, 9, (), ((1, 1),))))
        self.check(mirror, (2, ()), ((1, 5), (1, 7)), TAIL, (0,), ("Shut", 1, 1))
        self.check(mirror, (2, ()), ((0, 7), (1,)), TAIL, (0,), ("Shut", 0, 5))
        # Of those that don't let the same step, the lower one by its numbers, though it is farther on.
        self.check(mirror, (9, ()), ((0, 3), (1, 3)), TAIL, (0,), ("Shut", 0, 2))
        self.check(mirror, (9, ()), ((0, 4), (1, 4)), TAIL, (0,), ("Shut", 0, 5))
        self.check(mirror, (9, ()), ((0, 6), (1, 6)), TAIL, (0,), ("Shut", 0, 5))

    def test_the_first_of_several_knots(self):
        house = (2, (pipe(0, 1, 20, ((10, 1), (12, 1))),))
        self.check(house, (4, ((0, 2), (2, 2))), ((0, 1), (0, 5)), HEAD, (0, 15), ("Stuck", 0))
        # Both knots come to narrow places by the same step.
        self.check(house, (4, ((1, 2), (3, 2))), ((0, 8), (0, 12)), HEAD, (0, 15), ("Stuck", 0))
        self.check(house, (4, ((1, 1), (3, 2))), ((0, 8), (0, 12)), HEAD, (0, 15), ("Stuck", 1))
        # Numbers tell, not which knot is nearer to the end that is pulled.
        self.check(house, (4, ((1, 2), (3, 2))), ((0, 10), (0, 14)), TAIL, (0, 5), ("Stuck", 0))
        self.check(house, (4, ((0, 2), (4, 2))), ((0, 13), (0, 17)), TAIL, (0, 5), ("Stuck", 1))

    def test_a_flap_ahead_of_a_knot_at_the_same_step(self):
        house = (2, (pipe(0, 1, 20, ((10, 1),), ((9, -1),)),))
        self.check(house, (4, ((0, 2),)), ((0, 5), (0, 9)), HEAD, (0, 15), ("Shut", 0, 9))
        self.check(house, (4, ((0, 2),)), ((0, 2), (0, 6)), HEAD, (0, 15), ("Shut", 0, 9))
        # A knot that is stuck by an earlier step comes first all the same.
        late = (2, (pipe(0, 1, 20, ((10, 1),), ((10, -1),)),))
        self.check(late, (4, ((0, 2),)), ((0, 2), (0, 6)), HEAD, (0, 15), ("Stuck", 0))
        early = (2, (pipe(0, 1, 20, ((10, 1),), ((8, -1),)),))
        self.check(early, (4, ((0, 2),)), ((0, 2), (0, 6)), HEAD, (0, 15), ("Shut", 0, 8))

    def test_knots_beside_flaps_and_rooms(self):
        house = (3, (pipe(0, 1, 5, ((4, 2),)), pipe(1, 2, 5, ((1, 1),), ((0, 1),))))
        self.check(house, (2, ((1, 3),)), ((0, 1), (0, 3)), HEAD, (1,), ("Stuck", 0))
        self.check(house, (2, ((1, 2),)), ((0, 1), (0, 3)), HEAD, (1, 1), ("stand", ((0, 4), (1, 1))))
        self.check(house, (2, ((1, 2),)), ((0, 1), (0, 3)), HEAD, (1, 2), ("Stuck", 0))
        self.check(house, (2, ((1, 1),)), ((0, 1), (0, 3)), HEAD, (1, 2), ("stand", ((1,), (1, 2))))


class Refusals(unittest.TestCase):

    HOUSE = (2, (pipe(0, 1, 20, ((10, 1),), ((9, -1),)),))
    ROPE = (4, ((0, 2),))
    STAND = ((0, 5), (0, 9))
    NO_ENDS = tuple(thing for thing in OTHERS if type(thing) is not int or thing not in (TAIL, HEAD))

    def test_no_end(self):
        for end in self.NO_ENDS + (2, -1, True, False, "0", "head", (1,), [1], {1: 1}, 10 ** 39):
            held = copy.deepcopy(end)
            for place in ((0, 15), (5,), None, (0, 9), (0, 7)):
                with self.assertRaises(NoEnd) as caught:
                    pulled(self.HOUSE, self.ROPE, self.STAND, end, place)
                self.assertIs(caught.exception.end, end)
                self.assertIs(type(caught.exception), NoEnd)
            self.assertEqual(end, held)

    def test_no_place(self):
        odd = (
            (0, 0), (0, 20), (0, 21), (1, 1), (2,), (-1,), [0], [0, 15], (True,), (False,), (0, True), (False, 15),
            ("0",), ((0,),), (0, 15, 0),
        )
        for place in odd + OTHERS:
            held = copy.deepcopy(place)
            for end in (TAIL, HEAD):
                with self.assertRaises(NoPlace) as caught:
                    pulled(self.HOUSE, self.ROPE, self.STAND, end, place)
                self.assertIs(caught.exception.place, place)
                self.assertIs(type(caught.exception), NoPlace)
            self.assertEqual(place, held)

    def test_back_comes_ahead_of_what_bars(self):
        for place in ((0, 9), (0, 8), (0, 5), (0, 1), (0,)):
            with self.assertRaises(Back) as caught:
                pulled(self.HOUSE, self.ROPE, self.STAND, HEAD, place)
            self.assertEqual(caught.exception.place, place)

    def test_shut_and_stuck(self):
        with self.assertRaises(Shut) as caught:
            pulled(self.HOUSE, self.ROPE, self.STAND, HEAD, (1,))
        self.assertEqual((caught.exception.pipe, caught.exception.at), (0, 9))
        free = (2, (pipe(0, 1, 20, ((10, 1),)),))
        with self.assertRaises(Stuck) as caught:
            pulled(free, self.ROPE, self.STAND, HEAD, (1,))
        self.assertEqual(caught.exception.knot, 0)

    def test_the_stand_is_made_of_tuples(self):
        stand = pulled(self.HOUSE, self.ROPE, self.STAND, TAIL, (0,))
        self.assertEqual(stand, ((0,), (0, 4)))
        self.assertEqual([type(part) for part in (stand, *stand)], [tuple] * 3)


class Small(unittest.TestCase):

    def test_all_legs_in_small_houses(self):
        dice = dice_of(13)
        seen = {}
        for _ in range(150):
            house = small_house(dice, rooms=(2, 6), narrows=4, flaps=4)
            brute = Brute(house)
            length = dice.randint(1, 6)
            rope = (length, knots_for(dice, length))
            stands = brute.stands(rope)
            for stand in dice.sample(stands, min(12, len(stands))):
                for end in (TAIL, HEAD):
                    for place in brute.places:
                        told = told_of(house, rope, stand, end, place)
                        self.assertEqual(told, brute.leg(rope, stand, end, place), (house, rope, stand, end, place))
                        seen[told[0]] = seen.get(told[0], 0) + 1
        for word in ("stand", "Back", "Shut", "Stuck"):
            self.assertGreater(seen[word], 300, seen)

    def test_each_single_step(self):
        dice = dice_of(14)
        for _ in range(150):
            house = small_house(dice, rooms=(2, 5), narrows=4, flaps=3)
            brute = Brute(house)
            length = dice.randint(1, 5)
            rope = (length, knots_for(dice, length))
            for stand in brute.stands(rope):
                let = []
                for end in (TAIL, HEAD):
                    for place in next_to(house, stand[end]):
                        told = told_of(house, rope, stand, end, place)
                        if told[0] == "stand":
                            let.append((end, told[1]))
                self.assertEqual(sorted(let), sorted(brute.steps(rope, stand)), (house, rope, stand))

    def test_without_flaps_each_leg_can_be_taken_back(self):
        dice = dice_of(15)
        legs = 0
        for _ in range(200):
            house = small_house(dice, rooms=(2, 6), narrows=4, flaps=0)
            brute = Brute(house)
            length = dice.randint(1, 5)
            rope = (length, knots_for(dice, length))
            stands = brute.stands(rope)
            for stand in dice.sample(stands, min(8, len(stands))):
                for end in (TAIL, HEAD):
                    for place in brute.places:
                        told = told_of(house, rope, stand, end, place)
                        if told[0] == "stand":
                            legs += 1
                            self.assertEqual(pulled(house, rope, told[1], 1 - end, stand[1 - end]), stand)
        self.assertGreater(legs, 2000)


class Far(unittest.TestCase):

    def legs(self, seed, many, **kinds):
        dice = dice_of(seed)
        for _ in range(many):
            house = far_house(dice, **kinds)
            rope, stand = any_stand(dice, house)
            end = dice.choice((TAIL, HEAD))
            place = room_beyond(dice, house, stand, end)
            if place is not None:
                yield dice, house, rope, stand, end, place

    def test_far_legs_and_their_parts(self):
        seen = {}
        for dice, house, rope, stand, end, place in self.legs(16, 700):
            told = told_of(house, rope, stand, end, place)
            seen[told[0]] = seen.get(told[0], 0) + 1
            steps = distance_of(house, stand[end], place)
            middle = place_on(house, stand[end], place, dice.randint(1, steps))
            part = told_of(house, rope, stand, end, middle)
            if part[0] == "stand":
                self.assertIs(is_stand(house, rope, part[1]), True)
                self.assertEqual(part[1][end], middle)
                if middle != place:
                    self.assertEqual(told_of(house, rope, part[1], end, place), told)
            else:
                self.assertEqual(part, told)
        for word in ("stand", "Shut", "Stuck"):
            self.assertGreater(seen[word], 30, seen)

    def test_the_first_step_that_is_not_let(self):
        barred = 0
        for dice, house, rope, stand, end, place in self.legs(17, 500):
            told = told_of(house, rope, stand, end, place)
            if told[0] == "stand":
                continue
            barred += 1
            low, high = 0, distance_of(house, stand[end], place)
            while high - low > 1:
                middle = (low + high) // 2
                tried = told_of(house, rope, stand, end, place_on(house, stand[end], place, middle))
                if tried[0] == "stand":
                    low = middle
                else:
                    high = middle
                    self.assertEqual(tried, told)
            last = stand
            if low:
                last = pulled(house, rope, stand, end, place_on(house, stand[end], place, low))
            following = place_on(house, stand[end], place, high)
            self.assertEqual(told_of(house, rope, last, end, following), told)
            self.check_reason(house, rope, last, end, following, told)
        self.assertGreater(barred, 100)

    def check_reason(self, house, rope, stand, end, place, told):
        """Look at the one step that isn't let, by the words of [9]."""
        behind = (place_on(house, stand[0], place, 1), place) if end == HEAD else (
            place, place_on(house, stand[1], place, 1))
        shut = []
        for number, row in enumerate(house[1]):
            for at, way in row[4]:
                pair = [(number, spot) if 0 < spot < row[2] else (row[0 if spot == 0 else 1],)
                        for spot in (at, at + 1)][::way]
                for lies in (stand, behind):
                    if all(on(house, lies, spot) for spot in pair):
                        nearer = distance_of(house, lies[end], pair[1]) < distance_of(house, lies[end], pair[0])
                        if not nearer and (number, at) not in shut:
                            shut.append((number, at))
        if shut:
            self.assertEqual(told, ("Shut", *min(shut)))
        else:
            tight = [
                number for number, knot in enumerate(rope[1])
                if not is_stand(house, (rope[0], (knot,)), behind)
            ]
            self.assertEqual(told, ("Stuck", tight[0]))

    def test_without_flaps_far_legs_can_be_taken_back(self):
        legs = 0
        for dice, house, rope, stand, end, place in self.legs(18, 300, flaps=0, narrows=3):
            told = told_of(house, rope, stand, end, place)
            if told[0] == "stand":
                legs += 1
                self.assertEqual(pulled(house, rope, told[1], 1 - end, stand[1 - end]), stand)
        self.assertGreater(legs, 80)


def on(house, stand, place):
    return sum(distance_of(house, end, place) for end in stand) == distance_of(house, *stand)


if __name__ == "__main__":
    unittest.main()
