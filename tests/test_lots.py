"""[21] to [26] lots of ropes without knots in houses without flaps; [3] (d) stands and the names of their lots."""

import copy
import unittest
from itertools import permutations

from brute import HEAD, TAIL, Brute
from brute_lots import named_lots
from far import any_place, any_stand, room_beyond
from ropewarren.comes import come, under_always
from ropewarren.depths import longest
from ropewarren.errors import Flapped
from ropewarren.lots import lot_of, lots, stands_in
from ropewarren.places import distance_of, place_on
from ropewarren.plans import Plan, gap_of
from ropewarren.pulls import pulled
from ropewarren.verdicts import verdict
from samples import LONG, dice_of, far_house, is_plain, path, pipe, small_house, star
from scaled import on_line, scaled_house


def in_pipe(at, length):
    """The place at an at of the one pipe of a house."""
    return (0,) if at == 0 else (1,) if at == length else (0, at)


def turned(name):
    """The name of the lot of all stands turned about."""
    return name if name == ("turns",) else (name[0], name[2], name[1])


def pairs_at(house, length):
    """How many ordered pairs of places are that far apart, by sums over all pairs of rooms and insides of pipes."""
    rooms, pipes = house
    blocks = [((room,), (room,), 1) for room in range(rooms)]
    blocks += [((number, 1), (number, row[2] - 1), row[2] - 1) for number, row in enumerate(pipes) if row[2] > 1]
    plan = Plan(house)
    total = 0
    for at, (one, other, many) in enumerate(blocks):
        if many > length:
            total += 2 * (many - length)
        for first, last, more in blocks[at + 1:]:
            near = min(gap_of(plan, a, b) for a in (one, other) for b in (first, last))
            # Of so many ways to part what is left into a step count within each block.
            left = length - near
            total += 2 * max(0, min(left, many - 1) - max(0, left - more + 1) + 1)
    return total


class ByHand(unittest.TestCase):

    def check(self, house, length, rows):
        told = lots(house, length)
        self.assertEqual(told, tuple(sorted(rows)), (house, length))
        self.assertTrue(is_plain(told))
        self.assertEqual(lots(house, length), told)
        self.assertEqual(stands_in(house, length), sum(count for name, count in rows))

    def test_one_room(self):
        for length in (1, 2, LONG, 10 ** 14):
            self.check((1, ()), length, ())
            self.assertEqual((lots((1, ()), length), stands_in((1, ()), length)), ((), 0))

    def test_one_pipe(self):
        for long in (1, 2, 3, 4, 7, 8, LONG - 1, LONG):
            for length in sorted({1, 2, long // 2, long // 2 + 1, long - 1, long, long + 1, 10 ** 14} - {0}):
                many = long - length + 1
                if length > long:
                    rows = ()
                elif 2 * length <= long:
                    x, y = in_pipe(length - 1, long), in_pipe(long - length + 1, long)
                    rows = ((("runs", x, y), many), (("runs", y, x), many))
                else:
                    u, z = in_pipe(long - length, long), in_pipe(length, long)
                    rows = ((("core", u, z), many), (("core", z, u), many))
                self.check(path(2, long), length, rows)

    def test_which_way_a_rope_runs(self):
        house = path(2, LONG)
        self.assertEqual(lot_of(house, 7, ((0, 100), (0, 107))), ("runs", (0, 6), (0, LONG - 6)))
        self.assertEqual(lot_of(house, 7, ((0, 107), (0, 100))), ("runs", (0, LONG - 6), (0, 6)))
        self.assertEqual(lot_of(house, 1, ((0,), (0, 1))), ("runs", (0,), (1,)))
        self.assertEqual(lot_of(house, 1, ((1,), (0, LONG - 1))), ("runs", (1,), (0,)))
        # A row of one place: x and y are the two next to it.
        self.assertEqual(lot_of(path(2, 14), 7, ((0, 3), (0, 10))), ("runs", (0, 6), (0, 8)))
        self.assertEqual(lot_of(path(2, 2), 1, ((0,), (0, 1))), ("runs", (0,), (1,)))

    def test_stars_of_like_arms(self):
        for arms in (3, 4, 15):
            for long in (1, 2, 5, LONG):
                for length in sorted({1, 2, long - 1, long, long + 1, 2 * long - 1, 2 * long, 2 * long + 1} - {0}):
                    if length <= long:
                        many = 2 * arms * (long - length + 1) + arms * (arms - 1) * (length - 1)
                        rows = ((("turns",), many),)
                    else:
                        rows = tuple(
                            (("core", self.spot(one, length - long, long), self.spot(other, length - long, long)),
                             2 * long - length + 1)
                            for one, other in permutations(range(arms), 2) if length <= 2 * long
                        )
                    self.check(star(arms + 1, long), length, rows)

    def spot(self, arm, at, long):
        return (arm + 1,) if at == long else (arm, at)

    def test_about_as_long_as_a_third_arm_is_deep(self):
        house = (4, (pipe(0, 1, 90), pipe(0, 2, 70), pipe(0, 3, 20)))
        self.assertEqual([name for name, count in lots(house, 20)], [("turns",)])
        x, y = (0, 70), (1, 50)
        self.assertEqual([name for name, count in lots(house, 21)], [("runs", x, y), ("runs", y, x)])
        # The deepest two arms alone tell whether it runs: here 160 steps from end to end.
        names = [name for name, count in lots(house, 80)]
        x, y = (0, 9), (0, 11)
        self.assertEqual([name for name in names if name[0] == "runs"], [("runs", x, y), ("runs", y, x)])
        self.assertEqual([name for name, count in lots(house, 81) if name[0] != "core"], [])

    def test_a_stand_in_a_lot_of_its_own_beside_one_that_turns(self):
        # A rope over two short arms has no room to be drawn out at either end.
        house = (6, (pipe(0, 1, 9), pipe(0, 2, 9), pipe(0, 3, 9), pipe(0, 4, 2), pipe(0, 5, 2)))
        told = dict(lots(house, 4))
        self.assertIn(("core", (4,), (5,)), told)
        self.assertEqual(told[("core", (4,), (5,))], 1)
        self.assertEqual(told[("core", (5,), (4,))], 1)
        self.assertEqual(told[("turns",)], stands_in(house, 4) - 2)
        self.assertEqual(len(told), 3)

    def test_a_longer_core_over_the_same_places(self):
        # One lies over what is the other's core, and yet is of another lot.
        found = 0
        dice = dice_of(60)
        while found < 5:
            house = small_house(dice, rooms=(5, 8), longest=3, flaps=0)
            brute = Brute(house)
            for length in range(2, 9):
                named = named_lots(brute, length)
                for name in named:
                    if name[0] != "core":
                        continue
                    for other, lot in named.items():
                        if other == name or other[0] != "core":
                            continue
                        bits = [brute.row(*stand) for stand in lot]
                        over = [row for row in bits if name[1] in row and name[2] in row]
                        if any(row.index(name[1]) < row.index(name[2]) for row in over):
                            found += 1
                            self.assertNotEqual(
                                lot_of(house, length, lot[0]), lot_of(house, length, named[name][0]),
                            )

    def test_narrow_places_do_not_matter(self):
        plain, narrow = star(4, 7), (4, tuple(pipe(0, room, 7, ((1, 1), (3, 1))) for room in (1, 2, 3)))
        for length in range(1, 16):
            self.assertEqual(lots(narrow, length), lots(plain, length))
            self.assertEqual(stands_in(narrow, length), stands_in(plain, length))
        self.assertEqual(lot_of(narrow, 3, ((0,), (0, 3))), ("turns",))

    def test_flapped_ahead_of_all_else(self):
        for house in (
            (2, (pipe(0, 1, 9, (), ((3, 1),)),)), (4, (pipe(0, 1, 9), pipe(0, 2, 4), pipe(0, 3, 6, (), ((0, -1),)))),
        ):
            for ask in (
                lambda: lots(house, 2), lambda: stands_in(house, 2), lambda: lot_of(house, 2, ((0,), (0, 2))),
                lambda: lots(house, 10 ** 14), lambda: stands_in(house, 10 ** 14),
                lambda: lot_of(house, 2, ((0,), (0,))),
            ):
                with self.assertRaises(Flapped) as caught:
                    ask()
                self.assertIs(type(caught.exception), Flapped)

    def test_nothing_is_changed(self):
        house, stand = star(4, 7), ((0,), (0, 3))
        before = copy.deepcopy((house, stand))
        lots(house, 3), stands_in(house, 3), lot_of(house, 3, stand)
        self.assertEqual((house, stand), before)


class Small(unittest.TestCase):

    def check(self, house, brute, length):
        named = named_lots(brute, length)
        told = lots(house, length)
        self.assertTrue(is_plain(told))
        self.assertEqual(told, tuple(sorted((name, len(lot)) for name, lot in named.items())), (house, length))
        self.assertEqual(stands_in(house, length), sum(len(lot) for lot in named.values()))
        for name, lot in named.items():
            for stand in lot:
                self.assertEqual(lot_of(house, length, stand), name, (house, length, stand))
        return named

    def test_all_lengths(self):
        dice = dice_of(61)
        kinds = {"turns": 0, "runs": 0, "core": 0}
        for _ in range(400):
            house = small_house(dice, rooms=(1, 7), longest=dice.choice((1, 2, 3, 4)), flaps=0)
            brute = Brute(house)
            for length in range(1, 20):
                named = self.check(house, brute, length)
                for name in named:
                    kinds[name[0]] += 1
                if not named:
                    break
        self.assertGreater(min(kinds.values()), 100, kinds)

    def test_like_arms(self):
        for long in (1, 2, 3):
            for house in (star(4, long), star(5, long), path(4, long)):
                brute = Brute(house)
                for length in range(1, 3 * long + 2):
                    self.check(house, brute, length)

    def test_one_name_for_a_stand_and_what_it_leads_to(self):
        dice = dice_of(62)
        for _ in range(30):
            house = small_house(dice, rooms=(3, 6), flaps=0)
            brute = Brute(house)
            length = dice.randint(1, 6)
            stands = brute.stands((length, ()))
            for start in dice.sample(stands, min(3, len(stands))):
                far = brute.reach((length, ()), start)
                for wish in dice.sample(stands, min(10, len(stands))):
                    self.assertEqual(lot_of(house, length, start) == lot_of(house, length, wish), wish in far)


def any_length_stand(dice, house, length):
    """A stand of a rope of that length in a far house, None if none is found."""
    for _ in range(20):
        tail, room = any_place(dice, house), (dice.randrange(house[0]),)
        if distance_of(house, tail, room) >= length:
            return (tail, place_on(house, tail, room, length))[::dice.choice((1, -1))]
    return None


class Far(unittest.TestCase):

    def test_all_lots_together(self):
        dice = dice_of(63)
        for _ in range(40):
            house = far_house(dice, flaps=0)
            for length in (1, 2, LONG // 2, LONG - 1, LONG, LONG + 1, any_stand(dice, house)[0][0], 10 ** 14):
                told = lots(house, length)
                self.assertTrue(is_plain(told))
                self.assertEqual(list(told), sorted(set(told)))
                self.assertEqual(len({name for name, count in told}), len(told))
                total = pairs_at(house, length)
                self.assertEqual(sum(count for name, count in told), total, (house, length))
                self.assertEqual(stands_in(house, length), total)
                kinds = [name[0] for name, count in told if name[0] != "core"]
                self.assertIn(kinds, ([], ["turns"], ["runs", "runs"]))
                self.assertEqual(kinds == ["turns"], longest(house) >= length)

    def test_a_name_stays_whatever_legs_are_done(self):
        dice = dice_of(64)
        kinds = {"turns": 0, "runs": 0, "core": 0}
        for _ in range(150):
            house = far_house(dice, rooms=dice.choice((2, 3, 5, 16)), flaps=0)
            rope, stand = any_stand(dice, house, 0)
            name = lot_of(house, rope[0], stand)
            kinds[name[0]] += 1
            self.assertIn((name, come(house, rope, stand)), lots(house, rope[0]))
            for _ in range(8):
                end = dice.choice((TAIL, HEAD))
                room = room_beyond(dice, house, stand, end)
                if room is not None:
                    steps = dice.randint(1, distance_of(house, stand[end], room))
                    stand = pulled(house, rope, stand, end, place_on(house, stand[end], room, steps))
                    self.assertEqual(lot_of(house, rope[0], stand), name, (house, stand))
        self.assertGreater(min(kinds.values()), 10, kinds)

    def test_one_name_just_where_there_is_a_way(self):
        dice = dice_of(65)
        found = {True: 0, False: 0}
        for _ in range(200):
            house = far_house(dice, rooms=dice.choice((2, 4, 8, 16)), flaps=0)
            rope, start = any_stand(dice, house, 0)
            wish = any_length_stand(dice, house, rope[0])
            if wish is None:
                continue
            alike = lot_of(house, rope[0], start) == lot_of(house, rope[0], wish)
            self.assertEqual(alike, verdict(house, rope, start, wish)[0] == "way", (house, start, wish))
            found[alike] += 1
        self.assertGreater(min(found.values()), 30, found)

    def test_turned_about(self):
        dice = dice_of(66)
        for _ in range(150):
            house = far_house(dice, rooms=dice.choice((2, 4, 8, 16)), flaps=0)
            rope, stand = any_stand(dice, house, 0)
            name = lot_of(house, rope[0], stand)
            self.assertEqual(lot_of(house, rope[0], stand[::-1]), turned(name))
            told = dict(lots(house, rope[0]))
            self.assertEqual({turned(other): count for other, count in told.items()}, told)
            under = under_always(house, rope, stand)
            if name[0] == "core":
                self.assertEqual(under, name[1:])
                self.assertNotEqual(name[1], name[2])
            else:
                self.assertTrue(under is None or under[0] == under[1])

    def test_small_houses_made_large(self):
        dice = dice_of(67)
        by = LONG // 4
        for _ in range(40):
            house = small_house(dice, rooms=(2, 5), longest=2, narrows=0, flaps=0)
            third, fourth = (Brute(scaled_house(house, times)) for times in (3, 4))
            for length in range(1, 6):
                lines = [
                    tuple(sorted((name, len(lot)) for name, lot in named_lots(brute, length * times).items()))
                    for brute, times in ((third, 3), (fourth, 4))
                ]
                self.assertEqual(lots(scaled_house(house, by), length * by), on_line(*lines, by), (house, length))


if __name__ == "__main__":
    unittest.main()
