"""[28], [29] parts of a rope; [3] (c) whatever a rope can do any part of it can do."""

import copy
import unittest

from brute import HEAD, TAIL
from far import any_stand, any_wish, room_beyond
from near import any_way, small_stands
from ropewarren.errors import NoPart, WarrenError
from ropewarren.parts import part, part_stand, part_way
from ropewarren.places import distance_of, place_on
from ropewarren.pulls import pulled, steps_of, way_holds
from ropewarren.ropes import is_rope, is_stand
from ropewarren.verdicts import distance, verdict
from samples import LONG, OTHERS, dice_of, far_house, is_plain, path, pipe, star

ROPE = (12, ((0, 3), (5, 1), (7, 9), (12, 2)))
# Of a rope of 12 steps none of these is a part.
NO_PARTS = (
    (0, 0), (3, 3), (12, 12), (5, 4), (12, 0), (-1, 5), (-1, 0), (0, 13), (12, 13), (13, 14), (-2, -1), (0, 10 ** 39),
    (-10 ** 39, 3), (False, 3), (0, True), (False, True), (True, 5), (3, True), (None, 5), (0, None), ("0", "5"),
    (0, "5"), ("0", 5), ((0,), 5), (0, (5,)), ([0], [5]), ({}, {}), (0, []), ([], 5), ((), ()),
)


class Refused(unittest.TestCase):

    def check(self, first, last, ask):
        with self.assertRaises(NoPart) as caught:
            ask(first, last)
        self.assertIs(type(caught.exception), NoPart)
        self.assertIs(caught.exception.first, first)
        self.assertIs(caught.exception.last, last)

    def test_no_parts(self):
        house, stand = path(2, 30), ((0, 3), (0, 15))
        asks = (
            lambda first, last: part(ROPE, first, last),
            lambda first, last: part_stand(house, stand, first, last),
            lambda first, last: part_way(house, ROPE, stand, (), first, last),
            lambda first, last: part_way(house, ROPE, stand, ((HEAD, (1,)),), first, last),
        )
        for ask in asks:
            for first, last in NO_PARTS:
                self.check(first, last, ask)
            for other in OTHERS:
                if type(other) is not int or other in (16, -1, 10 ** 39, -(10 ** 39)):
                    self.check(other, 5, ask)
                    self.check(0, other, ask)
                    self.check(other, other, ask)


class ByHand(unittest.TestCase):

    def test_part(self):
        for first, last, told in (
            (0, 12, ROPE), (0, 1, (1, ((0, 3),))), (11, 12, (1, ((1, 2),))), (5, 7, (2, ((0, 1), (2, 9)))),
            (1, 4, (3, ())), (5, 6, (1, ((0, 1),))), (4, 5, (1, ((1, 1),))), (6, 12, (6, ((1, 9), (6, 2)))),
            (8, 11, (3, ())),
        ):
            self.assertEqual(part(ROPE, first, last), told)
            self.assertTrue(is_plain(part(ROPE, first, last)))
        self.assertEqual(part((10 ** 14, ((10 ** 13, 5),)), 10 ** 13, 10 ** 14), (9 * 10 ** 13, ((0, 5),)))

    def test_part_stand(self):
        house = path(3, 10)
        stand = ((0, 4), (1, 6))
        for first, last, told in (
            (0, 12, stand), (0, 1, ((1, 5), (1, 6))), (11, 12, ((0, 4), (0, 5))), (6, 12, ((0, 4), (1,))),
            (0, 6, ((1,), (1, 6))), (2, 9, ((0, 7), (1, 4))),
        ):
            self.assertEqual(part_stand(house, stand, first, last), told)
        self.assertEqual(part_stand(house, stand[::-1], 2, 9), ((1, 3), (0, 6)))

    def test_part_way(self):
        house, rope, start = star(4, 9), (4, ()), ((0, 6), (0, 2))
        way = ((HEAD, (1, 5)), (TAIL, (2, 3)), (HEAD, (1, 7)))
        self.assertIs(way_holds(house, rope, start, ((1, 3), (1, 7)), way), True)
        self.assertEqual(part_way(house, rope, start, way, 0, 4), way)
        self.assertEqual(part_way(house, rope, start, way, 1, 2), ((1, (1, 4)), (0, (2, 1)), (1, (1, 6))))
        self.assertEqual(part_way(house, rope, start, (), 1, 2), ())

    def test_nothing_is_changed(self):
        house, rope, start, way = star(4, 9), (4, ((1, 2),)), ((0, 6), (0, 2)), ((HEAD, (1, 5)),)
        before = copy.deepcopy((house, rope, start, way))
        told = part(rope, 1, 2), part_stand(house, start, 1, 2), part_way(house, rope, start, way, 1, 2)
        self.assertEqual((house, rope, start, way), before)
        self.assertEqual(told, (part(rope, 1, 2), part_stand(house, start, 1, 2),
                                part_way(house, rope, start, way, 1, 2)))


def all_parts(length):
    return [(first, last) for first in range(length) for last in range(first + 1, length + 1)]


class Small(unittest.TestCase):

    def test_parts_lie_where_their_bits_lie(self):
        for dice, house, brute, rope, start, stands in small_stands(70, 60):
            bits = brute.bits(start)
            for first, last in all_parts(rope[0]):
                short = part(rope, first, last)
                self.assertTrue(is_rope(short))
                self.assertEqual(short[0], last - first)
                knots = {behind + first: size for behind, size in short[1]}
                self.assertEqual(knots, {k: size for k, size in rope[1] if first <= k <= last})
                told = part_stand(house, start, first, last)
                self.assertEqual(told, (bits[last], bits[first]))
                self.assertTrue(is_plain(told))
                self.assertTrue(is_stand(house, short, told))

    def test_ways_step_by_step(self):
        done = 0
        for dice, house, brute, rope, start, stands in small_stands(71, 150, rooms=(3, 6), flaps=1):
            way, wish = any_way(dice, brute, rope, start)
            trail = brute.trail(rope, start, way)
            for first, last in all_parts(rope[0]):
                short = part(rope, first, last)
                told = part_way(house, rope, start, way, first, last)
                self.assertTrue(is_plain(told))
                self.assertEqual([end for end, place in told], [end for end, place in way])
                here = (brute.bits(start)[last], brute.bits(start)[first])
                dragged = [(brute.bits(stand)[last], brute.bits(stand)[first]) for stand in trail]
                self.assertEqual(brute.trail(short, here, told), dragged, (house, rope, start, way, first, last))
                self.assertIs(way_holds(house, short, here, dragged[-1], told), True)
                done += len(way) > 1
        self.assertGreater(done, 500)

    def test_parts_have_ways_of_no_more_steps(self):
        for dice, house, brute, rope, start, stands in small_stands(72, 80):
            far = brute.reach(rope, start)
            wish = dice.choice(sorted(far))
            for first, last in all_parts(rope[0]):
                here, there = part_stand(house, start, first, last), part_stand(house, wish, first, last)
                self.assertLessEqual(distance(house, part(rope, first, last), here, there), far[wish])


class Far(unittest.TestCase):

    def test_far_ways(self):
        dice = dice_of(73)
        done = 0
        for _ in range(150):
            house = far_house(dice, narrows=4, flaps=1)
            rope, start = any_stand(dice, house, 3)
            stand, legs = start, []
            for _ in range(6):
                end = dice.choice((TAIL, HEAD))
                room = room_beyond(dice, house, stand, end)
                if room is None:
                    continue
                place = place_on(house, stand[end], room, dice.randint(1, distance_of(house, stand[end], room)))
                try:
                    stand = pulled(house, rope, stand, end, place)
                except WarrenError:
                    continue
                legs.append((end, place))
            self.check(dice, house, rope, start, stand, tuple(legs))
            done += len(legs) > 1
        self.assertGreater(done, 50)

    def test_ways_of_verdicts(self):
        dice = dice_of(74)
        for _ in range(100):
            house = far_house(dice, narrows=4, flaps=dice.choice((0, 3)))
            rope, start = any_stand(dice, house, 3)
            wish = any_wish(dice, house, rope, start)
            told = verdict(house, rope, start, wish)
            if told[0] == "way":
                self.check(dice, house, rope, start, wish, told[1])

    def check(self, dice, house, rope, start, wish, way):
        for _ in range(3):
            first = dice.choice((0, dice.randrange(rope[0])))
            last = dice.choice((rope[0], dice.randint(first + 1, rope[0])))
            short = part(rope, first, last)
            here, there = part_stand(house, start, first, last), part_stand(house, wish, first, last)
            told = part_way(house, rope, start, way, first, last)
            self.assertEqual([end for end, place in told], [end for end, place in way])
            self.assertIs(way_holds(house, short, here, there, told), True)
            self.assertEqual(steps_of(house, short, here, told), steps_of(house, rope, start, way))

    def test_one_pipe(self):
        house = (2, (pipe(0, 1, LONG, ((LONG // 2, 5),)),))
        rope, start = (LONG // 4, ((0, 5), (LONG // 4, 1))), ((0,), (0, LONG // 4))
        told = part_way(house, rope, start, ((HEAD, (1,)), (TAIL, (0, 7))), 3, LONG // 4)
        self.assertEqual(told, ((HEAD, (0, LONG - 3)), (TAIL, (0, 7))))


if __name__ == "__main__":
    unittest.main()
