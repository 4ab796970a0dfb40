"""[3] THE PROMISE, over the whole program; its (d) and (f) also in test_lots, test_warrens and test_wishes."""

import unittest

from acts import any_things, tried
from brute import Brute
from far import any_stand, any_wish, room_beyond
from near import small_stands
from ropewarren.errors import WarrenError
from ropewarren.least import fewest_taken, fewest_untied, least_width, longest_part
from ropewarren.parts import part, part_stand
from ropewarren.places import distance_of, is_between, place_on
from ropewarren.pulls import pulled, way_holds
from ropewarren.verdicts import verdict, verdict_holds
from ropewarren.warrens import Warren
from samples import dice_of, far_house
from steps_told import fewest


def eased(dice, house, rope):
    """A house and a rope with wider places, fewer flaps, fewer and smaller knots."""
    rooms, pipes = house
    pipes = tuple(
        (
            one, other, length,
            tuple((at, width + dice.choice((0, 1, 5))) for at, width in narrows if dice.random() < 0.7),
            tuple(flap for flap in flaps if dice.random() < 0.7),
        )
        for one, other, length, narrows, flaps in pipes
    )
    knots = tuple((behind, dice.randint(1, size)) for behind, size in rope[1] if dice.random() < 0.7)
    return (rooms, pipes), (rope[0], knots)


def any_part(dice, length):
    first = dice.choice((0, dice.randrange(length)))
    return first, dice.choice((length, dice.randint(first + 1, length)))


class Either(unittest.TestCase):
    """(a) a way or a table that bars it, never both; (b) what is let by is so."""

    def test_far(self):
        dice = dice_of(150)
        words = {"way": 0, "bar": 0}
        for _ in range(150):
            house = far_house(dice, narrows=dice.choice((0, 6, 12)), flaps=dice.choice((0, 2, 6)))
            rope, start = any_stand(dice, house)
            wish = any_wish(dice, house, rope, start)
            told = verdict(house, rope, start, wish)
            words[told[0]] += 1
            self.assertIs(verdict_holds(house, rope, start, wish, told), True)
            if told[0] == "way":
                barred = ("bar", tuple(row for row in told[2] if row[:2] != wish))
                self.assertIs(verdict_holds(house, rope, start, wish, barred), False)
                self.assertIs(verdict_holds(house, rope, start, wish, ("bar", told[2])), False)
            else:
                self.assertIs(way_holds(house, rope, start, wish, ()), False)
                for way in ((), ((0, wish[0]),), ((1, wish[1]),), ((0, wish[0]), (1, wish[1]))):
                    self.assertIs(way_holds(house, rope, start, wish, way), False)
                    self.assertIs(verdict_holds(house, rope, start, wish, ("way", way, told[1])), False)
        self.assertGreater(min(words.values()), 30, words)


class Parts(unittest.TestCase):
    """(c) shorter ropes, fewer and smaller knots, wider places, fewer flaps never bar."""

    def check(self, dice, house, rope, start, wish):
        steps = fewest(house, rope, start, wish)
        easy_house, easy_rope = eased(dice, house, rope)
        first, last = any_part(dice, rope[0])
        easy_steps = fewest(
            easy_house, part(easy_rope, first, last), part_stand(house, start, first, last),
            part_stand(house, wish, first, last),
        )
        if steps is not None:
            self.assertIsNotNone(easy_steps, (house, rope, start, wish))
            self.assertLessEqual(easy_steps, steps)
        return steps is None and easy_steps is not None

    def test_small(self):
        eased_ones = 0
        for dice, house, brute, rope, start, stands in small_stands(151, 200, knots=4):
            for wish in dice.sample(stands, min(5, len(stands))):
                eased_ones += self.check(dice, house, rope, start, wish)
        self.assertGreater(eased_ones, 100)

    def test_far(self):
        dice = dice_of(152)
        for _ in range(200):
            house = far_house(dice, narrows=12, flaps=dice.choice((0, 2, 6)))
            rope, start = any_stand(dice, house)
            self.check(dice, house, rope, start, any_wish(dice, house, rope, start))

    def test_what_is_least_is_told_alike(self):
        """Nothing need be widened, cut, untied or taken just where there is a way."""
        for dice, house, brute, rope, start, stands in small_stands(153, 100):
            wish = dice.choice(stands)
            told = (
                least_width(house, rope, start, wish) == 0, longest_part(house, rope, start, wish) == rope[0],
                fewest_untied(house, rope, start, wish) == (), fewest_taken(house, rope, start, wish) == (),
            )
            self.assertEqual(told, (wish in brute.reach(rope, start),) * 4)


class Back(unittest.TestCase):
    """(e) what is pulled goes back likewise, where no flap lies between."""

    def has_flap_between(self, house, one, other):
        for number, row in enumerate(house[1]):
            for at, way in row[4]:
                ends = [
                    (row[0],) if spot == 0 else (row[1],) if spot == row[2] else (number, spot) for spot in (at, at + 1)
                ]
                if all(is_between(house, one, other, place) for place in ends):
                    return True
        return False

    def test_far(self):
        dice = dice_of(154)
        met = {True: 0, False: 0}
        for _ in range(300):
            house = far_house(dice, rooms=6, narrows=4, flaps=dice.choice((0, 1, 3)))
            rope, stand = any_stand(dice, house, 2)
            end = dice.choice((0, 1))
            room = room_beyond(dice, house, stand, end)
            if room is None:
                continue
            place = place_on(house, stand[end], room, dice.randint(1, distance_of(house, stand[end], room)))
            try:
                behind = pulled(house, rope, stand, end, place)
            except WarrenError:
                continue
            shut = self.has_flap_between(house, stand[1 - end], place)
            met[shut] += 1
            if shut:
                self.assertEqual(tried(pulled, house, rope, behind, 1 - end, stand[1 - end])[0], "Shut")
            else:
                self.assertEqual(pulled(house, rope, behind, 1 - end, stand[1 - end]), stand)
        self.assertGreater(min(met.values()), 15, met)


class Warrens(unittest.TestCase):
    """(f) a warren, taken back by deeds, stands as it stood, and its wishes are told the same."""

    def test_there_and_back(self):
        for dice, house, brute, rope, start, stands in small_stands(155, 60, starts=1, longest=5, rooms=(2, 5)):
            warren = Warren(house, rope, start)
            for name in "abc":
                warren.keep(name, dice.choice(stands))
            told = [warren.told(name) for name in "abc"]
            for _ in range(25):
                word = dice.choice(("pull", "lead", "tie", "untie", "trim", "narrow", "clear", "hang", "halve", "grow"))
                here = Brute(warren.house()).stands(warren.rope())
                tried(getattr(warren, word), *any_things(dice, word, warren.house(), warren.rope(), here))
                # Those asked while it stands otherwise are told as it stands then.
                tried(warren.told, dice.choice("abc"))
            while len(warren):
                warren.back()
            self.assertTrue(warren == Warren(house, rope, start))
            self.assertEqual([warren.told(name) for name in "abc"], told)


if __name__ == "__main__":
    unittest.main()
