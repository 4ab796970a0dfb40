"""[11] ways: whether anything is one, and how many steps it has; [12] ways taken back."""

import copy
import unittest

from brute import HEAD, TAIL, is_legs
from far import any_stand, room_beyond
from near import any_way, small_stands
from ropewarren.errors import WarrenError
from ropewarren.places import distance_of, place_on
from ropewarren.pulls import pulled, steps_of, way_holds
from samples import LONG, OTHERS, bent, dice_of, far_house, pipe, star


class ByHand(unittest.TestCase):

    HOUSE = star(4, 5)
    ROPE = (3, ())
    START = ((0, 4), (0, 1))
    # The rope turns about: into pipe 1, back into pipe 2, out again into pipe 0.
    WAY = ((HEAD, (1, 3)), (TAIL, (2, 3)), (HEAD, (0, 4)))
    WISH = ((0, 1), (0, 4))

    def holds(self, wish, thing):
        held = copy.deepcopy(thing)
        told = way_holds(self.HOUSE, self.ROPE, self.START, wish, thing)
        self.assertIs(way_holds(self.HOUSE, self.ROPE, self.START, wish, thing), told)
        self.assertEqual(thing, held)
        return told

    def test_a_way(self):
        self.assertIs(self.holds(self.WISH, self.WAY), True)
        self.assertEqual(steps_of(self.HOUSE, self.ROPE, self.START, self.WAY), 4 + 3 + 4)

    def test_no_legs(self):
        self.assertIs(self.holds(self.START, ()), True)
        self.assertIs(self.holds(self.WISH, ()), False)
        self.assertEqual(steps_of(self.HOUSE, self.ROPE, self.START, ()), 0)

    def test_another_wish(self):
        for wish in (self.START, self.WISH[::-1], ((0, 2), (1,)), ((0,), (0, 3)), ((1, 1), (1, 4))):
            self.assertIs(self.holds(wish, self.WAY), False)

    def test_bent_legs(self):
        way = self.WAY
        for thing in (
            way[1:], way[:-1], way[:1] + way[2:], way + way[-1:], way[:1] + way, way[::-1], (way[1], way[0], way[2]),
            way + ((HEAD, (1,)),), way[:-1] + ((HEAD, (1,)),), way[:-1] + ((TAIL, (0, 4)),),
        ):
            self.assertIs(self.holds(self.WISH, thing), False, thing)

    def test_other_forms(self):
        way = self.WAY
        for thing in OTHERS + (
            list(way), tuple(list(leg) for leg in way), tuple((end, list(place)) for end, place in way),
            tuple((bool(end), place) for end, place in way), tuple((str(end), place) for end, place in way),
            tuple((end, place, 1) for end, place in way), tuple((place, end) for end, place in way),
            tuple((end, (float(place[0]), place[1])) for end, place in way), (way,), way + ((),), way + (None,),
            way + ((HEAD,),), ((2, (1, 3)),) + way[1:], ((-1, (1, 3)),) + way[1:], {leg: leg for leg in way},
            way[:-1] + ((HEAD, (False, 4)),), way[:-1] + ((True, (0, 4)),),
        ):
            if thing != ():
                self.assertIs(self.holds(self.WISH, thing), False, thing)
                self.assertIs(self.holds(self.START, thing), False, thing)

    def test_a_leg_in_two_parts(self):
        parted = ((HEAD, (0,)), (HEAD, (1, 3)), (TAIL, (2, 1)), (TAIL, (2, 3)), (HEAD, (0, 1)), (HEAD, (0, 4)))
        self.assertIs(self.holds(self.WISH, parted), True)
        self.assertEqual(steps_of(self.HOUSE, self.ROPE, self.START, parted), 11)

    def test_far(self):
        house = star(4, LONG)
        rope = (LONG, ((0, 5),))
        way = ((HEAD, (2,)), (TAIL, (3,)), (HEAD, (1,)))
        self.assertIs(way_holds(house, rope, ((1,), (0,)), ((0,), (1,)), way), True)
        self.assertEqual(steps_of(house, rope, ((1,), (0,)), way), 3 * LONG)
        self.assertIs(way_holds(house, rope, ((1,), (0,)), ((1,), (0,)), way), False)

    def test_flaps_and_narrow_places_bar(self):
        way = ((HEAD, (1,)),)
        for narrows, flaps, told in (
            ((), (), True), (((5, 2),), (), True), (((5, 1),), (), False), ((), ((5, 1),), True),
            ((), ((5, -1),), False), (((2, 1),), (), True), ((), ((0, -1),), False),
        ):
            house = (2, (pipe(0, 1, 9, narrows, flaps),))
            self.assertIs(way_holds(house, (3, ((1, 2),)), ((0,), (0, 3)), ((0, 6), (1,)), way), told)


class Small(unittest.TestCase):

    def test_ways_and_bent_ones(self):
        answers = {True: 0, False: 0}
        for dice, house, brute, rope, start, stands in small_stands(19, 120):
            way, wish = any_way(dice, brute, rope, start)
            self.assertIs(way_holds(house, rope, start, wish, way), True)
            self.assertEqual(steps_of(house, rope, start, way), brute.way(rope, start, wish, way))
            other = dice.choice(stands)
            self.assertIs(way_holds(house, rope, start, other, way), other == wish)
            for _ in range(10):
                thing = bent(dice, way)
                told = is_legs(brute, thing) and brute.way(rope, start, wish, thing) is not None
                self.assertIs(way_holds(house, rope, start, wish, thing), told, (house, rope, start, wish, thing))
                answers[told] += 1
        self.assertGreater(min(answers.values()), 200, answers)

    def test_any_legs(self):
        seen = {True: 0, False: 0}
        for dice, house, brute, rope, start, stands in small_stands(20, 150):
            for _ in range(10):
                legs = tuple(
                    (dice.choice((TAIL, HEAD)), dice.choice(brute.places)) for _ in range(dice.randint(1, 2))
                )
                wish = dice.choice(stands)
                if dice.random() < 0.8 and brute.leg(rope, start, *legs[0])[0] == "stand":
                    wish = brute.leg(rope, start, *legs[0])[1]
                    legs = legs[:dice.choice((1, 2))]
                told = brute.way(rope, start, wish, legs) is not None
                self.assertIs(way_holds(house, rope, start, wish, legs), told)
                seen[told] += 1
        self.assertGreater(min(seen.values()), 300, seen)

    def test_without_flaps_ways_can_be_taken_back(self):
        for dice, house, brute, rope, start, stands in small_stands(21, 80, flaps=0):
            way, wish = any_way(dice, brute, rope, start)
            stand, back = start, []
            for end, place in way:
                back.append((1 - end, stand[1 - end]))
                stand = pulled(house, rope, stand, end, place)
            back = tuple(back[::-1])
            self.assertIs(way_holds(house, rope, wish, start, back), True)
            self.assertEqual(steps_of(house, rope, wish, back), steps_of(house, rope, start, way))


class Far(unittest.TestCase):

    def test_far_ways(self):
        dice = dice_of(22)
        done = 0
        for _ in range(150):
            house = far_house(dice, narrows=4, flaps=1)
            rope, start = any_stand(dice, house, 2)
            stand, legs, parted, steps = start, [], [], 0
            for _ in range(6):
                end = dice.choice((TAIL, HEAD))
                place = room_beyond(dice, house, stand, end)
                if place is None:
                    continue
                many = distance_of(house, stand[end], place)
                middle = place_on(house, stand[end], place, dice.randint(1, many))
                try:
                    behind = pulled(house, rope, stand, end, place)
                except WarrenError:
                    continue
                legs.append((end, place))
                parted.extend([(end, middle)] if middle == place else [(end, middle), (end, place)])
                stand, steps = behind, steps + many
            for way in (tuple(legs), tuple(parted)):
                self.assertIs(way_holds(house, rope, start, stand, way), True)
                self.assertEqual(steps_of(house, rope, start, way), steps)
                self.assertIs(way_holds(house, rope, start, stand, list(way)), False)
                if way:
                    self.assertIs(way_holds(house, rope, start, stand, way + way[-1:]), False)
            done += bool(legs)
        self.assertGreater(done, 80)


if __name__ == "__main__":
    unittest.main()
