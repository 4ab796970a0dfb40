"""[32] what was seen of the head, one place behind another."""

import copy
import unittest
from collections import deque

from brute import HEAD, TAIL, Brute
from far import any_place, any_stand
from near import small_stands
from ropewarren.errors import Unseen
from ropewarren.places import distance_of, is_between
from ropewarren.pulls import pulled, steps_of
from ropewarren.sights import seen, seen_way
from ropewarren.verdicts import distance
from samples import LONG, dice_of, far_house, is_plain, path, pipe, star
from scaled import scaled_house, scaled_place, scaled_rope, scaled_stand


def told_of(ask, *things):
    """What is told, or ("unseen", number)."""
    try:
        return ask(*things)
    except Unseen as refusal:
        assert type(refusal) is Unseen
        return ("unseen", refusal.number)


def counted(places, many, stand):
    """How many of the places are seen at a stand, if so many were seen ahead of it."""
    while many < len(places) and places[many] == stand[HEAD]:
        many += 1
    return many


def brute_seen(brute, rope, start, places):
    """The fewest steps, or ("unseen", number), all stands gone through with how many places were seen."""
    first = (start, counted(places, 0, start))
    far = {first: 0}
    todo = deque([first])
    most = first[1]
    while todo:
        stand, many = todo.popleft()
        most = max(most, many)
        if many == len(places):
            return far[stand, many]
        for end, there in brute.steps(rope, stand):
            state = (there, counted(places, many, there))
            if state not in far:
                far[state] = far[stand, many] + 1
                todo.append(state)
    return ("unseen", most)


class ByHand(unittest.TestCase):

    def check(self, house, rope, start, places, steps, way=None):
        before = copy.deepcopy((house, rope, start, places))
        self.assertEqual(seen(house, rope, start, places), steps)
        told = seen_way(house, rope, start, places)
        self.assertEqual(steps_of(house, rope, start, told), steps)
        self.assertTrue(is_plain(told))
        if way is not None:
            self.assertEqual(told, way)
        self.assertEqual(seen_way(house, rope, start, places), told)
        self.assertEqual((house, rope, start, places), before)

    def test_where_the_head_is(self):
        house, rope, start = path(2, LONG), (9, ()), ((0, 5), (0, 14))
        self.check(house, rope, start, ((0, 14),), 0, ())
        self.check(house, rope, start, ((0, 14), (0, 14), (0, 14)), 0, ())

    def test_along_one_pipe(self):
        house, rope, start = path(2, LONG), (9, ()), ((0, 5), (0, 14))
        self.check(house, rope, start, ((0, 15),), 1, ((HEAD, (0, 15)),))
        self.check(house, rope, start, ((1,),), LONG - 14, ((HEAD, (1,)),))
        self.check(house, rope, start, ((0, 9),), 5, ((TAIL, (0,)),))
        # Midway in legs, and a place twice.
        self.check(house, rope, start, ((0, 14), (0, 20), (0, 30)), 16, ((HEAD, (0, 30)),))
        self.check(house, rope, start, ((0, 20), (0, 20), (0, 10)), 16, ((HEAD, (0, 20)), (TAIL, (0, 1))))
        self.check(house, rope, start, ((0, 20), (0, 9), (0, 20), (1,)), 6 + 11 + LONG - 9)

    def test_unseen(self):
        house, rope, start = path(2, LONG), (9, ()), ((0, 5), (0, 14))
        for places, number in (
            (((0, 8),), 0), (((0,), (0, 14)), 0), (((0, 14), (0, 8)), 1), (((1,), (0, 9), (0, 3), (0, 2)), 2),
            (((1,), (1,), (1,), (1,), (1,), (0, 8)), 5),
        ):
            self.assertEqual(told_of(seen, house, rope, start, places), ("unseen", number))
            self.assertEqual(told_of(seen_way, house, rope, start, places), ("unseen", number))

    def test_flaps_keep_the_order(self):
        house = (2, (pipe(0, 1, LONG, (), ((50, 1),)),))
        rope, start = (9, ()), ((0, 5), (0, 14))
        self.check(house, rope, start, ((0, 50), (0, 90)), 76, ((HEAD, (0, 90)),))
        self.assertEqual(told_of(seen, house, rope, start, ((0, 90), (0, 50))), ("unseen", 1))
        self.assertEqual(told_of(seen, house, rope, start, ((0, 51), (0, 52), (0, 50))), ("unseen", 2))

    def test_a_sight_farther_off_may_be_better_for_the_next(self):
        # To see the head at room 0, then deep in pipe 1: out of pipe 0 it goes on at once.
        house, rope, start = star(4, 20), (5, ()), ((0, 9), (0, 4))
        self.check(house, rope, start, ((0,), (1, 7)), 11, ((HEAD, (1, 7)),))
        # Turned about, so that it is seen at room 0 a second time behind (0, 12).
        steps = distance(house, rope, start, ((0, 7), (0, 12)))
        self.check(house, rope, start, ((0, 7), (0, 3), (0, 7)), 3 + 4 + 4)
        self.check(house, rope, start, ((0, 12),), min(8, steps))

    def test_six_places(self):
        house, rope, start = path(3, 10), (3, ((1, 1),)), ((0, 2), (0, 5))
        self.check(house, rope, start, ((0, 5), (1,), (0, 6), (1, 4), (1, 4), (2,)), 5 + 4 + 8 + 6)


class Small(unittest.TestCase):

    def check(self, house, brute, rope, start, places):
        expected = brute_seen(brute, rope, start, places)
        told = told_of(seen, house, rope, start, places)
        self.assertEqual(told, expected, (house, rope, start, places))
        way = told_of(seen_way, house, rope, start, places)
        if type(expected) is tuple:
            self.assertEqual(way, expected)
            return False
        self.assertTrue(is_plain(way))
        trail = brute.trail(rope, start, way)
        self.assertEqual(len(trail) - 1, expected)
        many = 0
        for stand in trail:
            many = counted(places, many, stand)
        self.assertEqual(many, len(places), (house, rope, start, places, way))
        return len(way) > 1

    def test_any_places(self):
        several = 0
        for dice, house, brute, rope, start, stands in small_stands(90, 300):
            heads = sorted({stand[HEAD] for stand in brute.reach(rope, start)})
            for _ in range(4):
                among = dice.choice((heads, heads, heads, brute.places))
                places = tuple(dice.choice(among) for _ in range(dice.randint(1, 6)))
                several += self.check(house, brute, rope, start, places)
        self.assertGreater(several, 300)

    def test_the_head_where_it_is_and_places_twice(self):
        for dice, house, brute, rope, start, stands in small_stands(91, 150):
            heads = sorted({stand[HEAD] for stand in brute.reach(rope, start)})
            twice = [dice.choice(heads)] * 2
            for places in (
                (start[HEAD],), (start[HEAD], dice.choice(heads)), (dice.choice(heads), start[HEAD]),
                tuple(twice), tuple(twice) + (start[HEAD],) * 2 + tuple(twice),
            ):
                self.check(house, brute, rope, start, places)

    def test_longer_pipes(self):
        for dice, house, brute, rope, start, stands in small_stands(92, 60, longest=9, rooms=(2, 5), longest_rope=9):
            heads = sorted({stand[HEAD] for stand in brute.reach(rope, start)})
            for _ in range(3):
                self.check(house, brute, rope, start, tuple(dice.choice(heads) for _ in range(3)))


def head_sights(house, rope, start, way, places):
    """How many of the places the head comes to on a way, leg by leg."""
    stand, many = start, counted(places, 0, start)
    for end, place in way:
        behind = pulled(house, rope, stand, end, place)
        while many < len(places) and is_between(house, stand[HEAD], behind[HEAD], places[many]):
            gone = distance_of(house, stand[HEAD], places[many])
            # The same leg goes on from there, so only what lies beyond counts for the next place.
            if many and is_between(house, stand[HEAD], behind[HEAD], places[many - 1]):
                if distance_of(house, stand[HEAD], places[many - 1]) > gone:
                    break
            many += 1
        stand = behind
    return many


class Far(unittest.TestCase):

    def test_small_houses_made_large(self):
        """On the straight line through what the steps one by one tell of the house scaled by 3 and by 4."""
        by = LONG // 4
        ways = 0
        for dice, house, brute, rope, start, stands in small_stands(93, 200):
            heads = sorted({stand[HEAD] for stand in brute.reach(rope, start)})
            places = tuple(dice.choice(heads) for _ in range(dice.randint(1, 6)))
            third, fourth = (
                brute_seen(
                    Brute(scaled_house(house, k)), scaled_rope(rope, k), scaled_stand(start, k),
                    tuple(scaled_place(place, k) for place in places),
                )
                for k in (3, 4)
            )
            large = (
                scaled_house(house, by), scaled_rope(rope, by), scaled_stand(start, by),
                tuple(scaled_place(place, by) for place in places),
            )
            told = told_of(seen, *large)
            if type(third) is tuple:
                self.assertEqual((told, fourth), (third, third))
            else:
                self.assertEqual(told, third + (fourth - third) * (by - 3))
                way = seen_way(*large)
                self.assertEqual(steps_of(*large[:3], way), told)
                self.assertEqual(head_sights(*large[:3], way, large[3]), len(places))
                ways += len(way) > 1
        self.assertGreater(ways, 60)

    def test_far_houses(self):
        dice = dice_of(94)
        found = 0
        for _ in range(100):
            house = far_house(dice, narrows=6, flaps=dice.choice((0, 2)))
            rope, start = any_stand(dice, house, 2)
            places = tuple(any_place(dice, house) for _ in range(dice.randint(1, 3)))
            told = told_of(seen, house, rope, start, places)
            way = told_of(seen_way, house, rope, start, places)
            if type(told) is tuple:
                self.assertEqual(way, told)
                # Those ahead of the one that is told unseen are seen, and no more.
                if told[1]:
                    self.assertIs(type(told_of(seen, house, rope, start, places[:told[1]])), int)
                self.assertEqual(told_of(seen, house, rope, start, places[:told[1] + 1]), told)
            else:
                self.assertEqual(steps_of(house, rope, start, way), told)
                found += 1
        self.assertGreater(found, 20)


if __name__ == "__main__":
    unittest.main()
