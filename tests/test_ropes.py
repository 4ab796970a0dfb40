"""[7] what a rope is; [8] what a stand is, and where the bits of a rope lie."""

import copy
import unittest

from brute import Brute
from ropewarren.places import distance_of
from ropewarren.ropes import bit_at, is_rope, is_stand
from samples import (
    LONG, OTHERS, WIDE, bent, dice_of, far_house, knots_for, part_at, parts_of, path, pipe, put, small_house, star,
)

REACH = 10 ** 14
ROPE = (12, ((0, 3), (7, 1), (12, WIDE)))


def whole(thing):
    return type(thing) is int


def rope_holds(thing):
    """The clauses of [7] once more, written in another way."""
    if type(thing) is not tuple or len(thing) != 2 or not whole(thing[0]) or type(thing[1]) is not tuple:
        return False
    length, knots = thing
    if any(type(knot) is not tuple or len(knot) != 2 or not whole(knot[0]) or not whole(knot[1]) for knot in knots):
        return False
    behinds = [behind for behind, size in knots]
    return (
        1 <= length <= REACH and len(knots) <= 4 and behinds == sorted(set(behinds))
        and all(0 <= behind <= length and 1 <= size <= WIDE for behind, size in knots)
    )


class Ropes(unittest.TestCase):

    def is_one(self, *things):
        for thing in things:
            self.assertIs(is_rope(thing), True, thing)

    def is_none(self, *things):
        for thing in things:
            self.assertIs(is_rope(thing), False, thing)

    def test_lengths(self):
        self.is_one((1, ()), (2, ()), (REACH - 1, ()), (REACH, ()))
        self.is_none((0, ()), (-1, ()), (REACH + 1, ()), (10 ** 39, ()))

    def test_behinds(self):
        self.is_one((5, ((0, 1),)), (5, ((5, 1),)), (1, ((0, 1), (1, 1))), (REACH, ((REACH, 1),)))
        self.is_none((5, ((-1, 1),)), (5, ((6, 1),)), (1, ((2, 1),)), (REACH, ((REACH + 1, 1),)))

    def test_sizes(self):
        self.is_one((5, ((3, 1),)), (5, ((3, WIDE),)))
        self.is_none((5, ((3, 0),)), (5, ((3, -1),)), (5, ((3, WIDE + 1),)))

    def test_rising(self):
        self.is_one((5, ((1, 9), (2, 3), (4, 3))))
        self.is_none((5, ((2, 3), (1, 9))), (5, ((1, 1), (4, 1), (2, 1))))

    def test_no_behind_twice(self):
        self.is_none((5, ((2, 1), (2, 1))), (5, ((2, 1), (2, 2))), (5, ((2, 2), (2, 1))))

    def test_four_knots_at_most(self):
        knots = tuple((behind, 1) for behind in range(5))
        for many in range(5):
            self.is_one((9, knots[:many]))
        self.is_none((9, knots))

    def test_truths_and_texts_and_lists(self):
        for path_to in parts_of(ROPE):
            part = part_at(ROPE, path_to)
            if isinstance(part, tuple):
                self.is_none(put(ROPE, path_to, list(part)), put(ROPE, path_to, {}))
            else:
                self.is_none(put(ROPE, path_to, True), put(ROPE, path_to, False), put(ROPE, path_to, str(part)))
            self.is_none(put(ROPE, path_to, None))
        self.is_none((True, ()), (1, ((False, 1),)), (1, ((0, True),)), (5, ((True, 1),)))

    def test_tuples_of_a_wrong_length(self):
        self.is_none((), (5,), (5, (), ()), (5, (3,)), (5, ((3,),)), (5, ((3, 1, 1),)), (5, ((),)), (5, (3, 1)))

    def test_other_things(self):
        for thing in OTHERS + (None, "12 0x3", {12: ()}):
            held = copy.deepcopy(thing)
            self.assertIs(is_rope(thing), rope_holds(thing), thing)
            self.assertEqual(thing, held)

    def test_changed_ropes(self):
        dice = dice_of(8)
        answers = {True: 0, False: 0}
        for _ in range(6000):
            length = dice.choice((1, 2, 12, REACH, dice.randint(1, REACH)))
            thing = bent(dice, (length, knots_for(dice, length, sizes=(1, 2, WIDE))))
            held = copy.deepcopy(thing)
            told = is_rope(thing)
            self.assertIs(told, rope_holds(thing), thing)
            self.assertIs(is_rope(thing), told)
            self.assertEqual(thing, held)
            answers[told] += 1
        self.assertGreater(min(answers.values()), 300)


HOUSE = (4, (pipe(0, 1, 6, ((2, 2), (4, 5))), pipe(0, 2, 3), pipe(0, 3, LONG, ((LONG - 1, 1),))))


class Stands(unittest.TestCase):

    def test_distance(self):
        self.assertIs(is_stand(HOUSE, (6, ()), ((0,), (1,))), True)
        self.assertIs(is_stand(HOUSE, (6, ()), ((1,), (0,))), True)
        self.assertIs(is_stand(HOUSE, (5, ()), ((0,), (1,))), False)
        self.assertIs(is_stand(HOUSE, (7, ()), ((0,), (1,))), False)
        self.assertIs(is_stand(HOUSE, (LONG + 3, ()), ((3,), (2,))), True)
        self.assertIs(is_stand(HOUSE, (1, ()), ((0, 1), (0,))), True)
        self.assertIs(is_stand(HOUSE, (1, ()), ((0,), (0,))), False)

    def test_each_place_by_its_one_name(self):
        self.assertIs(is_stand(HOUSE, (6, ()), ((0, 0), (1,))), False)
        self.assertIs(is_stand(HOUSE, (6, ()), ((0,), (0, 6))), False)
        self.assertIs(is_stand(HOUSE, (6, ()), ((0,), (4,))), False)

    def test_knots_at_narrow_places(self):
        # The head is at room 1, so the bit 4 lies at 2, where the width is 2, and the bit 2 at 4, where it is 5.
        stand = ((0,), (1,))
        for knots, told in (
            (((4, 2),), True), (((4, 3),), False), (((4, 1),), True), (((2, 5),), True), (((2, 6),), False),
            (((2, 5), (4, 2)), True), (((2, 5), (4, 3)), False), (((2, 6), (4, 2)), False), (((3, WIDE),), True),
            (((0, WIDE), (6, WIDE)), True), (((1, WIDE), (3, WIDE), (5, WIDE)), True),
        ):
            self.assertIs(is_stand(HOUSE, (6, knots), stand), told, knots)
        self.assertIs(is_stand(HOUSE, (6, ((2, 3),)), ((1,), (0,))), False)
        self.assertIs(is_stand(HOUSE, (6, ((4, 3),)), ((1,), (0,))), True)

    def test_knots_at_the_ends(self):
        self.assertIs(is_stand(HOUSE, (2, ((0, 3),)), ((0,), (0, 2))), False)
        self.assertIs(is_stand(HOUSE, (2, ((2, 3),)), ((0,), (0, 2))), True)
        self.assertIs(is_stand(HOUSE, (2, ((2, 3),)), ((0, 2), (0,))), False)
        self.assertIs(is_stand(HOUSE, (LONG - 1, ((0, 2),)), ((0,), (2, LONG - 1))), False)
        self.assertIs(is_stand(HOUSE, (LONG - 1, ((0, 1),)), ((0,), (2, LONG - 1))), True)

    def test_rooms_are_never_narrow(self):
        house = (2, (pipe(0, 1, 3, ((1, 1), (2, 1))),))
        self.assertIs(is_stand(house, (3, ((0, WIDE), (3, WIDE))), ((0,), (1,))), True)

    def test_all_pairs_of_places(self):
        dice = dice_of(9)
        seen = {True: 0, False: 0}
        for _ in range(80):
            house = small_house(dice, narrows=6)
            brute = Brute(house)
            for length in (1, 2, 3, 5, 8):
                rope = (length, knots_for(dice, length))
                for tail in brute.places:
                    for head in brute.places:
                        told = is_stand(house, rope, (tail, head))
                        self.assertIs(told, brute.is_stand(rope, tail, head), (house, rope, tail, head))
                        seen[told] += brute.distance(tail, head) == length
        self.assertGreater(min(seen.values()), 500)

    def test_other_things(self):
        things = OTHERS + (
            [(0,), (1,)], ((0,), [1]), ([0], (1,)), ((False,), (1,)), ((0,), (True,)), ((0,), (1,), 6), ((0,),),
            ((0,), (1,), ()), ("0", "1"), ((0,), None), {(0,): (1,)}, ((0,), (1, )[:0]), "((0,), (1,))",
        )
        for thing in things:
            held = copy.deepcopy(thing)
            self.assertIs(is_stand(HOUSE, (6, ()), thing), False, thing)
            self.assertEqual(thing, held)
        for thing in things:
            self.assertIs(is_stand((1, ()), (6, ()), thing), False, thing)

    def test_truths_that_equal_the_numbers(self):
        house = path(3, 2)
        self.assertIs(is_stand(house, (2, ()), ((0, 1), (1, 1))), True)
        for thing in (
            ((False, 1), (1, 1)), ((0, True), (1, 1)), ((0, 1), (True, 1)), ((0, 1), (1, True)),
        ):
            self.assertIs(is_stand(house, (2, ()), thing), False, thing)

    def test_changed_stands(self):
        dice = dice_of(10)
        for _ in range(3000):
            house = small_house(dice, rooms=(2, 5))
            brute = Brute(house)
            tail, head = dice.choice(brute.places), dice.choice(brute.places)
            rope = (max(1, brute.distance(tail, head)), ())
            thing = bent(dice, (tail, head))
            told = (
                type(thing) is tuple and len(thing) == 2
                and all(type(part) is tuple and all(whole(number) for number in part) for part in thing)
                and all(part in brute.beside for part in thing) and brute.is_stand(rope, *thing)
            )
            self.assertIs(is_stand(house, rope, thing), told, (house, thing))


class Bits(unittest.TestCase):

    def test_by_hand(self):
        stand = ((0, 4), (1, 2))
        told = [bit_at(HOUSE, stand, bit) for bit in range(7)]
        self.assertEqual(told, [(1, 2), (1, 1), (0,), (0, 1), (0, 2), (0, 3), (0, 4)])

    def test_small_houses(self):
        dice = dice_of(11)
        for _ in range(30):
            house = small_house(dice)
            brute = Brute(house)
            for tail in brute.places:
                for head in brute.places:
                    bits = brute.bits((tail, head))
                    told = [bit_at(house, (tail, head), bit) for bit in range(len(bits))]
                    self.assertEqual(told, bits, (house, tail, head))
                    self.assertEqual((told[0], told[-1]), (head, tail))

    def test_far_houses(self):
        dice = dice_of(12)
        for _ in range(100):
            house = far_house(dice)
            tail, head = ((dice.randrange(16),), (dice.randrange(16),))
            length = distance_of(house, tail, head)
            self.assertEqual(bit_at(house, (tail, head), 0), head)
            self.assertEqual(bit_at(house, (tail, head), length), tail)
            bit = dice.randint(0, length)
            place = bit_at(house, (tail, head), bit)
            self.assertEqual(distance_of(house, head, place), bit)
            self.assertEqual(distance_of(house, tail, place), length - bit)

    def test_a_far_stand(self):
        house = star(4, LONG)
        stand = ((1,), (2, 7))
        self.assertIs(is_stand(house, (LONG + 7, ()), stand), True)
        self.assertEqual(bit_at(house, stand, 7), (0,))
        self.assertEqual(bit_at(house, stand, 8), (0, 1))
        self.assertEqual(bit_at(house, stand, LONG), (0, LONG - 7))


if __name__ == "__main__":
    unittest.main()
