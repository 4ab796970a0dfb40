"""[30], [31] what is least: widths, parts, knots untied, flaps taken."""

import copy
import unittest
from itertools import combinations

from brute import Brute
from far import any_stand, any_wish
from near import small_stands
from ropewarren.least import fewest_taken, fewest_untied, least_width, longest_part
from ropewarren.parts import part, part_stand
from ropewarren.verdicts import verdict
from samples import LONG, dice_of, far_house, is_plain, path, pipe, star
from scaled import on_line, scaled_house, scaled_rope, scaled_stand


def answers(house, rope, start, wish):
    return (
        least_width(house, rope, start, wish), longest_part(house, rope, start, wish),
        fewest_untied(house, rope, start, wish), fewest_taken(house, rope, start, wish),
    )


def at_least(house, width):
    """The house with all narrower places that wide."""
    rooms, pipes = house
    return (rooms, tuple(
        (one, other, length, tuple((at, max(wide, width)) for at, wide in narrows), flaps)
        for one, other, length, narrows, flaps in pipes
    ))


def hung_but(house, gone):
    """The house without these flaps."""
    rooms, pipes = house
    return (rooms, tuple(
        (one, other, length, narrows, tuple((at, way) for at, way in flaps if (number, at) not in gone))
        for number, (one, other, length, narrows, flaps) in enumerate(pipes)
    ))


def tied_but(rope, gone):
    return (rope[0], tuple(knot for number, knot in enumerate(rope[1]) if number not in gone))


def flaps_in(house):
    return [(number, at) for number, row in enumerate(house[1]) for at, way in row[4]]


def leads(house, rope, start, wish):
    """Whether there is a way, all stands gone through step by step."""
    return wish in Brute(house).reach(rope, start)


def brute_part(brute, rope, stand, length):
    bits = brute.bits(stand)
    return (length, tuple(knot for knot in rope[1] if knot[0] <= length)), (bits[length], bits[0])


def brute_longest(brute, rope, start, wish):
    """The greatest length of a part from the head on with a way, all of them gone through."""
    best = 0
    for length in range(1, rope[0] + 1):
        short, here = brute_part(brute, rope, start, length)
        if brute_part(brute, rope, wish, length)[1] in brute.reach(short, here):
            best = length
    return best


def first_choice(things, does):
    """The first of the fewest things that do, in Python's order; None where none do."""
    for many in range(len(things) + 1):
        found = [choice for choice in combinations(things, many) if does(choice)]
        if found:
            return min(found)
    return None


def brute_answers(house, brute, rope, start, wish):
    """(least_width, longest_part, fewest_untied, fewest_taken), all gone through."""
    widths = [
        width for width in range(0, 7)
        if leads(at_least(house, width) if width else house, rope, start, wish)
    ]
    return (
        min(widths, default=None), brute_longest(brute, rope, start, wish),
        first_choice(range(len(rope[1])), lambda gone: leads(house, tied_but(rope, gone), start, wish)),
        first_choice(flaps_in(house), lambda gone: leads(hung_but(house, gone), rope, start, wish)),
    )


class ByHand(unittest.TestCase):

    def check(self, house, rope, start, wish, told):
        before = copy.deepcopy((house, rope, start, wish))
        self.assertEqual(answers(house, rope, start, wish), told)
        self.assertEqual(answers(house, rope, start, wish), told)
        self.assertEqual((house, rope, start, wish), before)
        for part_told in told[2:]:
            self.assertTrue(part_told is None or is_plain(part_told))

    def test_where_there_is_a_way(self):
        house = (2, (pipe(0, 1, LONG, ((LONG // 2, 2),), ((3, 1),)),))
        self.check(house, (9, ((4, 2),)), ((0,), (0, 9)), ((0, LONG - 9), (1,)), (0, 9, (), ()))
        self.check(house, (9, ((4, 2),)), ((0,), (0, 9)), ((0,), (0, 9)), (0, 9, (), ()))

    def test_one_narrow_place(self):
        house = (2, (pipe(0, 1, LONG, ((LONG // 2, 2),)),))
        rope = (9, ((2, 7), (4, 2), (6, 5)))
        # A part without the greater knots comes through.
        self.check(house, rope, ((0,), (0, 9)), ((0, LONG - 9), (1,)), (7, 1, (0, 2), None))
        self.check(house, (9, ((5, 7),)), ((0,), (0, 9)), ((0, LONG - 9), (1,)), (7, 4, (0,), None))
        self.check(house, (9, ((0, 3),)), ((0,), (0, 9)), ((0, LONG - 9), (1,)), (3, 0, (0,), None))

    def test_places_of_several_widths(self):
        house = (2, (pipe(0, 1, LONG, ((100, 8), (200, 2), (300, 4))),))
        rope = (9, ((0, 3), (9, 9)))
        start = ((0,), (0, 9))
        self.check(house, rope, start, ((0, 150), (0, 159)), (9, 8, (1,), None))
        self.check(house, rope, start, ((0, 350), (0, 359)), (9, 0, (0, 1), None))
        self.check(house, (9, ((0, 3),)), start, ((0, 350), (0, 359)), (3, 0, (0,), None))
        self.check(house, (9, ((9, 5),)), start, ((0, 350), (0, 359)), (5, 8, (0,), None))

    def test_wider_places_stay_as_wide(self):
        # The tail's knot comes through at 50, the head's doesn't at 120.
        house = (2, (pipe(0, 1, LONG, ((50, 5), (120, 1))),))
        self.check(house, (100, ((0, 2), (100, 5))), ((0,), (0, 100)), ((0, 60), (0, 160)), (2, 0, (0,), None))

    def test_none_at_any_width(self):
        house = path(2, LONG)
        # A rope in one pipe isn't turned about, nor any part of it.
        self.check(house, (9, ((3, 7),)), ((0,), (0, 9)), ((0, 9), (0,)), (None, 0, None, None))
        # In a star a short part is.
        self.check(star(4, 9), (12, ()), ((0, 9 - 3), (1, 6)), ((1, 6), (0, 6)), (None, 9, None, None))

    def test_the_first_of_like_many_knots(self):
        # Turned about by the third arm, into which either end may go first, past a narrow place.
        house = (4, (pipe(0, 1, 9), pipe(0, 2, 9), pipe(0, 3, 9, ((1, 1),))))
        start, wish = ((0, 6), (0, 1)), ((0, 1), (0, 6))
        self.check(house, (5, ((0, 2), (5, 2))), start, wish, (2, 4, (0,), None))
        self.check(house, (5, ((0, 1), (5, 2))), start, wish, (0, 5, (), ()))
        # With a third knot midway neither end alone does.
        self.check(house, (5, ((0, 2), (2, 2), (5, 2))), start, wish, (2, 1, (0, 1), None))

    def test_flaps(self):
        house = (2, (pipe(0, 1, LONG, (), ((50, -1), (60, 1), (70, -1))),))
        start, far = ((0,), (0, 9)), ((0, 500), (0, 509))
        self.check(house, (9, ()), start, far, (None, 0, None, ((0, 50), (0, 70))))
        self.check(house, (9, ()), far, start, (None, 0, None, ((0, 60),)))
        self.check(house, (9, ((0, 5),)), far, far, (0, 9, (), ()))

    def test_flaps_and_knots_both_bar(self):
        house = (2, (pipe(0, 1, LONG, ((30, 1),), ((50, -1),)),))
        start, far = ((0,), (0, 9)), ((0, 500), (0, 509))
        self.check(house, (9, ((0, 5),)), start, far, (None, 0, None, None))

    def test_the_first_of_like_many_flaps(self):
        # Turned about by either of two more arms, each of them shut by a flap.
        house = (5, (
            pipe(0, 1, 9), pipe(0, 2, 9), pipe(0, 3, 9, (), ((0, -1),)), pipe(0, 4, 9, (), ((2, -1),)),
        ))
        told = fewest_taken(house, (5, ()), ((0, 6), (0, 1)), ((0, 1), (0, 6)))
        self.assertEqual(told, ((2, 0),))

    def test_without_flaps_and_knots(self):
        house = path(2, 9)
        self.assertIs(fewest_taken(house, (4, ()), ((0,), (0, 4)), ((0, 4), (0,))), None)
        self.assertIs(fewest_untied(house, (4, ()), ((0,), (0, 4)), ((0, 4), (0,))), None)
        self.assertIs(least_width(house, (4, ()), ((0,), (0, 4)), ((0, 4), (0,))), None)


class Small(unittest.TestCase):

    def test_all_gone_through(self):
        widths, untied, taken = {}, {}, {}
        lengths = set()
        for dice, house, brute, rope, start, stands in small_stands(80, 260, starts=2, flaps=4, knots=4):
            for wish in dice.sample(stands, min(2, len(stands))):
                told = answers(house, rope, start, wish)
                expected = brute_answers(house, brute, rope, start, wish)
                self.assertEqual(told, expected, (house, rope, start, wish))
                widths[told[0]] = widths.get(told[0], 0) + 1
                for counts, choice in ((untied, told[2]), (taken, told[3])):
                    many = None if choice is None else len(choice)
                    counts[many] = counts.get(many, 0) + 1
                lengths.add((told[1], rope[0]))
        self.assertTrue({None, 0, 2, 3, 4} <= set(widths), widths)
        self.assertTrue({None, 0, 1, 2} <= set(untied), untied)
        self.assertTrue({None, 0, 1, 2} <= set(taken), taken)
        self.assertGreater(len({pair for pair in lengths if 0 < pair[0] < pair[1]}), 5, lengths)

    def test_nearby_narrow_places_and_many_knots(self):
        for dice, house, brute, rope, start, stands in small_stands(
            81, 80, starts=2, rooms=(2, 4), longest=6, narrows=6, flaps=0, knots=4,
        ):
            for wish in dice.sample(stands, min(2, len(stands))):
                self.assertEqual(
                    answers(house, rope, start, wish), brute_answers(house, brute, rope, start, wish),
                    (house, rope, start, wish),
                )


class Far(unittest.TestCase):

    def is_way(self, house, rope, start, wish):
        return verdict(house, rope, start, wish)[0] == "way"

    def test_what_is_told_does_and_less_does_not(self):
        dice = dice_of(82)
        barred = 0
        for _ in range(120):
            house = far_house(dice, narrows=12, flaps=dice.choice((0, 2, 6)))
            rope, start = any_stand(dice, house)
            wish = any_wish(dice, house, rope, start)
            width, length, untied, taken = answers(house, rope, start, wish)
            if self.is_way(house, rope, start, wish):
                self.assertEqual((width, length, untied, taken), (0, rope[0], (), ()))
                continue
            barred += 1
            self.assertNotEqual(width, 0)
            if width is not None:
                self.assertTrue(self.is_way(at_least(house, width), rope, start, wish))
            self.assertFalse(self.is_way(at_least(house, (width or 10 ** 7) - 1), rope, start, wish))
            self.check_length(house, rope, start, wish, length)
            if untied is not None:
                self.assertTrue(self.is_way(house, tied_but(rope, untied), start, wish))
                for knot in untied:
                    fewer = tuple(other for other in untied if other != knot)
                    self.assertFalse(self.is_way(house, tied_but(rope, fewer), start, wish))
            else:
                self.assertFalse(self.is_way(house, (rope[0], ()), start, wish))
            if taken is None:
                self.assertFalse(self.is_way(hung_but(house, flaps_in(house)), rope, start, wish))
            else:
                self.assertTrue(self.is_way(hung_but(house, taken), rope, start, wish))
        self.assertGreater(barred, 30)

    def check_length(self, house, rope, start, wish, length):
        for many in (length, length + 1):
            if many > 0:
                short = part(rope, 0, many)
                here, there = part_stand(house, start, 0, many), part_stand(house, wish, 0, many)
                self.assertEqual(self.is_way(house, short, here, there), many == length)

    def test_small_houses_made_large(self):
        by = LONG // 4
        for dice, house, brute, rope, start, stands in small_stands(83, 60, starts=1, rooms=(2, 4), longest=3):
            third, fourth = (Brute(scaled_house(house, times)) for times in (3, 4))
            for wish in dice.sample(stands, min(2, len(stands))):
                told = brute_answers(house, brute, rope, start, wish)
                lengths = [
                    brute_longest(large, *(scaled_rope(rope, k), scaled_stand(start, k), scaled_stand(wish, k)))
                    for large, k in ((third, 3), (fourth, 4))
                ]
                length = on_line(*lengths, by)
                taken = None if told[3] is None else tuple((number, at * by) for number, at in told[3])
                large = (
                    scaled_house(house, by), scaled_rope(rope, by), scaled_stand(start, by), scaled_stand(wish, by),
                )
                self.assertEqual(answers(*large), (told[0], length, told[2], taken), (house, rope, start, wish))


if __name__ == "__main__":
    unittest.main()
