"""[19], [20] all that can be come to."""

import unittest

from brute import Brute
from far import any_stand
from near import small_stands
from ropewarren.comes import come, heads, is_stuck, tails, under_always
from ropewarren.halts import halts
from ropewarren.places import is_between
from ropewarren.verdicts import verdict
from samples import LONG, dice_of, far_house, path, pipe, star
from scaled import Crooked, on_line, scaled_house, scaled_rope, scaled_stand


def brute_answers(brute, rope, start):
    """(come, heads, tails, under_always) by all stands gone through."""
    stands = list(brute.reach(rope, start))
    return (
        len(stands), brute.stretches(stands, 1), brute.stretches(stands, 0), brute.under_always(stands, start),
    )


def answers(house, rope, start):
    return (
        come(house, rope, start), heads(house, rope, start), tails(house, rope, start),
        under_always(house, rope, start),
    )


class ByHand(unittest.TestCase):

    def check(self, house, rope, start, many, head, tail, under):
        told = answers(house, rope, start)
        self.assertEqual(told, (many, head, tail, under))
        self.assertEqual(answers(house, rope, start), told)
        for rows in told[1:3]:
            self.assertEqual({type(part) for part in (rows, *rows)}, {tuple})

    def test_in_one_pipe(self):
        house = path(2, LONG)
        for start in (((0,), (0, 3)), ((0, 9), (0, 12)), ((0, LONG - 3), (1,))):
            self.check(house, (3, ()), start, LONG - 2, ((0, 3, LONG),), ((0, 0, LONG - 3),), None)
        self.check(house, (3, ()), ((0, 3), (0,)), LONG - 2, ((0, 0, LONG - 3),), ((0, 3, LONG),), None)

    def test_what_always_lies_under_a_long_rope(self):
        house = path(2, LONG)
        self.check(
            house, (LONG - 7, ()), ((0, 3), (0, LONG - 4)), 8, ((0, LONG - 7, LONG),), ((0, 0, 7),),
            ((0, 7), (0, LONG - 7)),
        )
        self.assertEqual(under_always(house, (LONG - 7, ()), ((0, LONG - 4), (0, 3))), ((0, LONG - 7), (0, 7)))

    def test_one_place_alone_under_it(self):
        house = path(2, 8)
        self.assertEqual(under_always(house, (4, ()), ((0,), (0, 4))), ((0, 4), (0, 4)))
        self.assertEqual(under_always(house, (4, ()), ((0, 6), (0, 2))), ((0, 4), (0, 4)))
        self.assertIsNone(under_always(house, (3, ()), ((0,), (0, 3))))
        self.assertEqual(under_always(path(3, 4), (4, ()), ((0,), (1,))), ((1,), (1,)))

    def test_a_stuck_rope(self):
        house = path(3, 6)
        self.check(
            house, (12, ()), ((0,), (2,)), 1, ((1, 6, 6),), ((0, 0, 0),), ((0,), (2,)),
        )
        self.assertIs(is_stuck(house, (12, ()), ((0,), (2,))), True)
        self.assertIs(is_stuck(house, (11, ()), ((0,), (1, 5))), False)

    def test_rooms_are_told_with_each_of_their_pipes(self):
        # The head comes to room 0 alone, of all that it has in common with pipes 1 and 2.
        house = (4, (pipe(0, 1, 9), pipe(0, 2, 4, (), ((0, -1),)), pipe(0, 3, 4, (), ((0, -1),))))
        self.check(
            house, (3, ()), ((0, 5), (0, 2)), 7, ((0, 0, 6), (1, 0, 0), (2, 0, 0)), ((0, 3, 9),), None,
        )
        self.check(
            path(3, 4), (8, ()), ((0,), (2,)), 1, ((1, 4, 4),), ((0, 0, 0),), ((0,), (2,)),
        )
        self.check(
            path(3, 4), (4, ()), ((1,), (2,)), 5, ((0, 4, 4), (1, 0, 4)), ((0, 0, 4), (1, 0, 0)), ((1,), (1,)),
        )

    def test_between_two_flaps_against_one_another(self):
        house = (2, (pipe(0, 1, LONG, (), ((500, 1), (600, -1))),))
        rope = (101, ())
        start = ((0, 500), (0, 601))
        self.assertIs(is_stuck(house, rope, start), True)
        self.check(house, rope, start, 1, ((0, 601, 601),), ((0, 500, 500),), start)
        # A shorter one has come in between them, and doesn't come out.
        start = ((0, 450), (0, 500))
        self.check(house, (50, ()), start, 901 - 350, ((0, 50, 600),), ((0, 0, 550),), None)
        start = ((0, 501), (0, 551))
        self.check(house, (50, ()), start, 50, ((0, 551, 600),), ((0, 501, 550),), ((0, 550), (0, 551)))

    def test_stuck_by_knots_and_narrow_places(self):
        house = (2, (pipe(0, 1, 20, ((6, 1), (10, 1))),))
        rope = (3, ((0, 2), (2, 2)))
        start = ((0, 6), (0, 9))
        self.assertIs(is_stuck(house, rope, start), True)
        self.check(house, rope, start, 1, ((0, 9, 9),), ((0, 6, 6),), start)
        rope = (3, ((0, 2), (1, 2)))
        self.check(house, rope, start, 2, ((0, 8, 9),), ((0, 5, 6),), ((0, 6), (0, 8)))
        tight = (2, (pipe(0, 1, 20, ((6, 1), (8, 1))),))
        for place, told in (((0, 4), False), ((0, 7), True), ((0, 9), False)):
            stand = ((place[0], place[1] - 3), place)
            self.assertIs(is_stuck(tight, (3, ((0, 2),)), stand), told, stand)

    def test_all_stands_where_the_rope_can_be_turned(self):
        house = star(4, LONG)
        whole = tuple((number, 0, LONG) for number in range(3))
        for length in (1, 7, LONG // 2, LONG - 1):
            self.check(house, (length, ()), ((0, length), (0,)), 6 * LONG, whole, whole, None)
        self.check(house, (LONG, ()), ((1,), (0,)), 6 * LONG, whole, whole, ((0,), (0,)))
        # One step longer, and it can't be: it goes from pipe 0 into either other one and back.
        start = ((1,), (1, 1))
        self.check(
            house, (LONG + 1, ()), start, LONG, ((1, 1, LONG),), ((0, 1, LONG),), ((0, 1), (1, 1)),
        )

    def test_up_to_a_flap_in_the_next_pipe(self):
        house = (3, (pipe(0, 1, 10), pipe(1, 2, 10, (), ((2, -1),))))
        self.check(house, (4, ()), ((0, 3), (0, 7)), 9, ((0, 4, 10), (1, 0, 2)), ((0, 0, 8),), None)
        self.check(
            house, (9, ()), ((0, 1), (1,)), 4, ((0, 9, 10), (1, 0, 2)), ((0, 0, 3),), ((0, 3), (0, 9)),
        )


class Small(unittest.TestCase):

    def test_small_houses(self):
        kinds = {"none": 0, "one": 0, "several": 0}
        for dice, house, brute, rope, start, stands in small_stands(37, 400, starts=3):
            told = answers(house, rope, start)
            self.assertEqual(told, brute_answers(brute, rope, start), (house, rope, start))
            under = told[3]
            kinds["none" if under is None else "one" if under[0] == under[1] else "several"] += 1
        self.assertGreater(min(kinds.values()), 80, kinds)

    def test_longer_pipes_and_ropes(self):
        for dice, house, brute, rope, start, stands in small_stands(
            38, 150, starts=2, longest=9, longest_rope=12, narrows=5, flaps=4,
        ):
            self.assertEqual(answers(house, rope, start), brute_answers(brute, rope, start), (house, rope, start))

    def test_without_knots_and_flaps(self):
        for dice, house, brute, rope, start, stands in small_stands(39, 100, starts=2, knots=0, flaps=0, longest=5):
            self.assertEqual(answers(house, rope, start), brute_answers(brute, rope, start), (house, rope, start))

    def test_stuck(self):
        seen = {True: 0, False: 0}
        for dice, house, brute, rope, start, stands in small_stands(40, 400, starts=6, longest_rope=8):
            told = is_stuck(house, rope, start)
            self.assertIs(told, not brute.steps(rope, start), (house, rope, start))
            seen[told] += 1
        self.assertGreater(min(seen.values()), 100, seen)


class Far(unittest.TestCase):

    def test_small_houses_made_large(self):
        by = LONG // 4
        straight = crooked = 0
        for dice, house, brute, rope, start, stands in small_stands(41, 90, starts=2, rooms=(2, 5), longest_rope=4):
            third, fourth, fifth = [
                brute_answers(Brute(scaled_house(house, each)), scaled_rope(rope, each), scaled_stand(start, each))
                for each in (3, 4, 5)
            ]
            try:
                expected, near = on_line(third, fourth, by), on_line(third, fourth, 5)
            except Crooked:
                crooked += 1
                continue
            self.assertEqual(near, fifth)
            large = (scaled_house(house, by), scaled_rope(rope, by), scaled_stand(start, by))
            self.assertEqual(answers(*large), expected, (house, rope, start))
            self.assertIs(is_stuck(*large), expected[0] == 1)
            straight += 1
        self.assertGreater(straight, 20 * crooked + 50)

    def test_far_houses(self):
        dice = dice_of(42)
        stuck = 0
        for _ in range(200):
            house = far_house(dice, narrows=dice.choice((0, 12)), flaps=dice.choice((0, 1, 6)))
            rope, start = any_stand(dice, house)
            many, head, tail, under = answers(house, rope, start)
            table = verdict(house, rope, start, start)[-1]
            self.assertGreaterEqual(many, len(table))
            for rows, end in ((head, 1), (tail, 0)):
                self.check_stretches(house, rows, [row[end] for row in table])
            if under is not None:
                for row in table:
                    self.assertTrue(all(is_between(house, *row[:2], place) for place in under))
            self.assertIs(is_stuck(house, rope, start), not halts(house, rope, start, start))
            self.assertEqual(is_stuck(house, rope, start), many == 1)
            stuck += many == 1
        self.assertGreater(stuck, 5)

    def check_stretches(self, house, rows, places):
        """Stretches rise, none touches another one of its pipe, and each place of a halt lies in one."""
        self.assertEqual(rows, tuple(sorted(set(rows))))
        for before, behind in zip(rows, rows[1:]):
            self.assertTrue(before[0] < behind[0] or before[2] + 1 < behind[1])
        for pipe_of, low, high in rows:
            self.assertTrue(0 <= low <= high <= house[1][pipe_of][2])
        for place in places:
            spots = [place] if len(place) == 2 else [
                (number, 0 if row[0] == place[0] else row[2])
                for number, row in enumerate(house[1]) if place[0] in row[:2]
            ]
            for number, at in spots:
                self.assertEqual(sum(row[0] == number and row[1] <= at <= row[2] for row in rows), 1)


if __name__ == "__main__":
    unittest.main()
