"""[33], [34] houses changed."""

import copy
import unittest

from brute import Brute
from far import any_place, any_stand, any_wish
from near import small_stands
from ropewarren.changes import grown, halved, lengthened, place_halved
from ropewarren.errors import Full, NoAt, NoBy, NoPipe, NoRoom
from ropewarren.houses import is_house, is_place
from ropewarren.places import distance_of
from ropewarren.verdicts import verdict
from samples import LONG, OTHERS, dice_of, far_house, is_plain, path, pipe, small_house, star
from steps_told import fewest

HOUSE = (3, (pipe(0, 1, 12, ((3, 2), (6, 4), (11, 9)), ((0, 1), (5, -1), (6, 1), (11, -1))), pipe(1, 2, 7, ((2, 5),))))
# No numbers: truths and other things.
NO_NUMBERS = tuple(thing for thing in OTHERS if type(thing) is not int)


class Refusals(unittest.TestCase):

    def check(self, kind, field, thing, ask, *things):
        with self.assertRaises(kind) as caught:
            ask(*things)
        self.assertIs(type(caught.exception), kind)
        self.assertEqual(list(vars(caught.exception)), [field])
        self.assertIs(vars(caught.exception)[field], thing)

    def check_full(self, ask, *things):
        with self.assertRaises(Full) as caught:
            ask(*things)
        self.assertEqual(vars(caught.exception), {"what": "rooms"})

    def place_halved(self, house, number, at):
        return place_halved(house, number, at, (0,))

    def test_halved(self):
        full = path(16, 9)
        for ask in (halved, self.place_halved):
            for house, many in ((HOUSE, 2), (full, 15), ((1, ()), 0)):
                for number in (many, many + 1, -1, 10 ** 39, -(10 ** 39), *NO_NUMBERS):
                    for at in (1, 0, None, True):
                        self.check(NoPipe, "pipe", number, ask, house, number, at)
            for house, number, length in ((HOUSE, 0, 12), (HOUSE, 1, 7), (full, 14, 9), (path(2, 1), 0, 1)):
                for at in (0, -1, length, length + 1, 10 ** 39, *NO_NUMBERS):
                    self.check(NoAt, "at", at, ask, house, number, at)
            for at in (1, 8):
                self.check_full(ask, full, 14, at)

    def test_lengthened(self):
        for house, number, length in ((HOUSE, 0, 12), (path(16, 9), 14, 9), (path(2, LONG), 0, LONG)):
            for other in (len(house[1]), -1, 10 ** 39, *NO_NUMBERS):
                for by in (1, 0, None):
                    self.check(NoPipe, "pipe", other, lengthened, house, other, by)
            for by in (0, -1, LONG - length + 1, LONG, LONG + 1, 10 ** 39, *NO_NUMBERS):
                self.check(NoBy, "by", by, lengthened, house, number, by)

    def test_grown(self):
        full = path(16, 9)
        for house in (HOUSE, full, (1, ())):
            for room in (house[0], -1, 10 ** 39, *NO_NUMBERS):
                for length in (1, 0, None):
                    self.check(NoRoom, "room", room, grown, house, room, length)
            for length in (0, -1, LONG + 1, 10 ** 39, *NO_NUMBERS):
                self.check(NoBy, "by", length, grown, house, 0, length)
        for length in (1, LONG):
            self.check_full(grown, full, 15, length)


class ByHand(unittest.TestCase):

    def test_halved(self):
        one, two = HOUSE[1]
        for at, near, beyond in (
            (1, pipe(0, 3, 1, (), ((0, 1),)),
             pipe(1, 3, 11, ((1, 9), (6, 4), (9, 2)), ((0, 1), (5, -1), (6, 1)))),
            (5, pipe(0, 3, 5, ((3, 2),), ((0, 1),)), pipe(1, 3, 7, ((1, 9), (6, 4)), ((0, 1), (5, -1), (6, 1)))),
            # At a narrow place, which is none any more, and between two flaps beside it.
            (6, pipe(0, 3, 6, ((3, 2),), ((0, 1), (5, -1))), pipe(1, 3, 6, ((1, 9),), ((0, 1), (5, -1)))),
            (7, pipe(0, 3, 7, ((3, 2), (6, 4)), ((0, 1), (5, -1), (6, 1))), pipe(1, 3, 5, ((1, 9),), ((0, 1),))),
            (11, pipe(0, 3, 11, ((3, 2), (6, 4)), ((0, 1), (5, -1), (6, 1))), pipe(1, 3, 1, (), ((0, 1),))),
        ):
            told = halved(HOUSE, 0, at)
            self.assertEqual(told, (4, (near, two, beyond)), at)
            self.assertTrue(is_plain(told) and is_house(told))
        self.assertEqual(halved(HOUSE, 1, 2), (4, (one, pipe(1, 3, 2), pipe(2, 3, 5))))
        self.assertEqual(halved(path(2, LONG), 0, 1), (3, (pipe(0, 2, 1), pipe(1, 2, LONG - 1))))
        self.assertEqual(halved(path(15, 2), 13, 1)[0], 16)

    def test_place_halved(self):
        for place, told in (
            ((0,), (0,)), ((1,), (1,)), ((2,), (2,)), ((0, 1), (0, 1)), ((0, 4), (0, 4)), ((0, 5), (3,)),
            ((0, 6), (2, 6)), ((0, 11), (2, 1)), ((1, 1), (1, 1)), ((1, 5), (1, 5)), ((1, 6), (1, 6)),
        ):
            self.assertEqual(place_halved(HOUSE, 0, 5, place), told)

    def test_lengthened(self):
        one, two = HOUSE[1]
        self.assertEqual(lengthened(HOUSE, 0, 1), (3, (one[:2] + (13,) + one[3:], two)))
        self.assertEqual(lengthened(HOUSE, 1, LONG - 7), (3, (one, two[:2] + (LONG,) + two[3:])))
        self.assertTrue(is_plain(lengthened(HOUSE, 0, 1)))

    def test_grown(self):
        self.assertEqual(grown(HOUSE, 2, 1), (4, HOUSE[1] + (pipe(2, 3, 1),)))
        self.assertEqual(grown((1, ()), 0, LONG), path(2, LONG))
        self.assertEqual(grown(star(15, 3), 0, 3), star(16, 3))
        self.assertTrue(is_plain(grown(HOUSE, 0, 5)))

    def test_nothing_is_changed(self):
        before = copy.deepcopy(HOUSE)
        for _ in range(2):
            told = halved(HOUSE, 0, 5), lengthened(HOUSE, 0, 5), grown(HOUSE, 0, 5), place_halved(HOUSE, 0, 5, (0, 6))
        self.assertEqual(HOUSE, before)
        self.assertEqual(told, (
            halved(HOUSE, 0, 5), lengthened(HOUSE, 0, 5), grown(HOUSE, 0, 5), place_halved(HOUSE, 0, 5, (0, 6)),
        ))


def halves(house):
    """All (pipe, at) at which a house can be halved."""
    return [(number, at) for number, row in enumerate(house[1]) for at in range(1, row[2])]


class Small(unittest.TestCase):

    def test_halved_is_the_same_house(self):
        """The same places next to one another, as wide, and between them the same flaps."""
        dice = dice_of(100)
        for _ in range(120):
            house = small_house(dice, longest=5, narrows=6, flaps=6)
            brute = Brute(house)
            for number, at in halves(house):
                new = Brute(halved(house, number, at))
                moved = {place: place_halved(house, number, at, place) for place in brute.places}
                self.assertEqual(sorted(moved.values()), new.places)
                self.assertEqual(moved[number, at], (house[0],))
                for place in brute.places:
                    self.assertEqual(
                        sorted(moved[other] for other in brute.beside[place]), sorted(new.beside[moved[place]]),
                    )
                widths = {moved[place]: width for place, width in brute.widths.items() if place != (number, at)}
                self.assertEqual(new.widths, widths)
                flaps = sorted((moved[one], moved[other]) for name, (one, other) in brute.flaps)
                self.assertEqual(sorted(pair for name, pair in new.flaps), flaps, (house, number, at))

    def test_halved_at_no_narrow_place_leaves_ways(self):
        for dice, house, brute, rope, start, stands in small_stands(101, 60, rooms=(2, 5), longest=5):
            far = brute.reach(rope, start)
            wide = [spot for spot in halves(house) if spot not in brute.widths]
            for number, at in dice.sample(wide, min(3, len(wide))):
                new = halved(house, number, at)
                led = [tuple(place_halved(house, number, at, place) for place in stand) for stand in stands]
                here = tuple(place_halved(house, number, at, place) for place in start)
                for stand, there in zip(stands, led):
                    self.assertEqual(fewest(new, rope, here, there), far.get(stand))

    def test_grown_never_bars(self):
        more = 0
        for dice, house, brute, rope, start, stands in small_stands(102, 80, rooms=(2, 5)):
            far = brute.reach(rope, start)
            new = grown(house, dice.randrange(house[0]), dice.randint(1, 5))
            reach = Brute(new).reach(rope, start)
            for stand in stands:
                self.assertEqual(fewest(new, rope, start, stand), reach.get(stand))
                if stand in far:
                    self.assertLessEqual(reach[stand], far[stand])
                elif stand in reach:
                    more += 1
        self.assertGreater(more, 20)

    def test_lengthened(self):
        """A pipe longer at its room other: what it has stays at its at."""
        dice = dice_of(103)
        for _ in range(60):
            house = small_house(dice, rooms=(2, 6))
            number, by = dice.randrange(len(house[1])), dice.randint(1, 4)
            brute, new = Brute(house), Brute(lengthened(house, number, by))
            self.assertEqual(len(new.places), len(brute.places) + by)
            self.assertEqual(new.widths, brute.widths)
            self.assertEqual([name for name, pair in new.flaps], [name for name, pair in brute.flaps])
            self.assertEqual(new.line(number)[:-by - 1], brute.line(number)[:-1])


class Far(unittest.TestCase):

    def test_halved_and_grown(self):
        dice = dice_of(104)
        words = {"way": 0, "bar": 0}
        for _ in range(120):
            house = far_house(dice, rooms=dice.choice((3, 8, 15)), narrows=4, flaps=dice.choice((0, 2)))
            rope, start = any_stand(dice, house, 2)
            wish = any_wish(dice, house, rope, start)
            spot = any_place(dice, house)
            steps = fewest(house, rope, start, wish)
            words["bar" if steps is None else "way"] += 1
            if len(spot) == 2 and spot[1] not in dict(house[1][spot[0]][3]):
                new = halved(house, *spot)
                self.assertTrue(is_house(new))
                led = [tuple(place_halved(house, *spot, place) for place in stand) for stand in (start, wish)]
                self.assertTrue(all(is_place(new, place) for stand in led for place in stand))
                self.assertEqual(distance_of(new, *led[0]), rope[0])
                self.assertEqual(fewest(new, rope, *led), steps)
            new = grown(house, dice.randrange(house[0]), dice.randint(1, LONG))
            self.assertTrue(is_house(new))
            if steps is not None:
                self.assertLessEqual(fewest(new, rope, start, wish), steps)
            self.assertIn(verdict(new, rope, start, wish)[0], ("way",) if steps is not None else ("way", "bar"))
        self.assertGreater(min(words.values()), 25, words)


if __name__ == "__main__":
    unittest.main()
