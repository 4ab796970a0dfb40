"""[35], [36] warrens; [3] (f) a warren, taken back by deeds, stands as it stood."""

import copy
import unittest

from acts import DEEDS as WORDS
from acts import any_things, fields_of, tried
from brute import Brute
from far import any_stand, any_wish, room_beyond
from model import Model
from near import small_stands
from ropewarren.errors import NoBack, NoHouse, NoRope, NoStand, WarrenError
from ropewarren.houses import is_house
from ropewarren.parts import part, part_stand
from ropewarren.places import distance_of, place_on
from ropewarren.ropes import is_rope, is_stand
from ropewarren.tables import table_holds
from ropewarren.warrens import DEEDS, WISHES, Warren
from samples import LONG, OTHERS, WIDE, dice_of, far_house, is_plain, path, pipe, star
from steps_told import fewest

HOUSE = (4, (pipe(0, 1, 12, ((3, 1),), ((5, 1),)), pipe(0, 2, 9), pipe(0, 3, 7)))
ROPE = (4, ((0, 2), (3, 1)))
STAND = ((1, 7), (1, 3))
NO_NUMBERS = tuple(thing for thing in OTHERS if type(thing) is not int)
HUGE = (10 ** 39, -(10 ** 39))


def all_of(warren):
    """All that a warren tells of itself."""
    return (
        warren.house(), warren.rope(), warren.stand(), warren.steps(), warren.deeds(), len(warren), str(warren),
        warren.names(), warren.changed(),
    )


def warren_of(house=HOUSE, rope=ROPE, stand=STAND):
    return Warren(house, rope, stand)


class Made(unittest.TestCase):

    def test_numbers(self):
        self.assertEqual((DEEDS, WISHES), (200, 10))

    def test_told(self):
        warren = warren_of()
        self.assertEqual(all_of(warren), (HOUSE, ROPE, STAND, 0, (), 0, "4 rooms, rope 4, 2 knots", (), ()))

    def refused(self, kind, *things):
        with self.assertRaises(kind) as caught:
            Warren(*things)
        self.assertIs(type(caught.exception), kind)
        self.assertEqual(vars(caught.exception), {})

    def test_of_anything(self):
        for other in OTHERS:
            if not is_house(other):
                self.refused(NoHouse, other, ROPE, STAND)
                self.refused(NoHouse, other, other, other)
            if not is_rope(other):
                self.refused(NoRope, HOUSE, other, STAND)
                self.refused(NoRope, HOUSE, other, other)
            self.refused(NoStand, HOUSE, ROPE, other)
        self.refused(NoHouse, list(HOUSE), ROPE, STAND)
        self.refused(NoRope, HOUSE, list(ROPE), STAND)
        self.refused(NoStand, HOUSE, ROPE, list(STAND))
        self.refused(NoStand, (1, ()), ROPE, ((0,), (0,)))

    def test_stands_that_are_none(self):
        for stand in (((1, 7), (1, 4)), ((0, 7), (0, 3)), ((1, 7), (1, 11)), ((0,), (0, 4), (0,)), ((False,), (0, 4))):
            self.refused(NoStand, HOUSE, ROPE, stand)


class Texts(unittest.TestCase):

    def test_str(self):
        self.assertEqual(str(Warren(path(2, 9), (1, ()), ((0,), (0, 1)))), "2 rooms, rope 1, 0 knots")
        self.assertEqual(str(Warren(path(2, 9), (1, ((1, 1),)), ((0,), (0, 1)))), "2 rooms, rope 1, 1 knots")
        warren = Warren(path(3, LONG), (LONG, ((1, 1), (2, 2))), ((0,), (1,)))
        self.assertEqual(str(warren), "3 rooms, rope 1000000000000, 2 knots")

    def test_equality(self):
        one, other = warren_of(), warren_of()
        self.assertTrue(one == other)
        self.assertFalse(one != other)
        other.keep("a", STAND)
        other.pull(1, (1, 2))
        self.assertFalse(one == other)
        other.pull(0, (1, 7))
        # What was done, kept and stepped doesn't count.
        self.assertTrue(one == other)
        self.assertNotEqual(one.steps(), other.steps())
        for unlike in (
            warren_of(house=path(4, 9), stand=((1, 7), (1, 3))), warren_of(rope=(4, ())), warren_of(stand=((1, 8), (1, 4))),
            HOUSE, (HOUSE, ROPE, STAND), str(one), None, True, 0, [], {},
        ):
            self.assertFalse(one == unlike)
            self.assertTrue(one != unlike)
            self.assertFalse(unlike == one)


class Refusals(unittest.TestCase):
    """Each deed with each of its refusals, in their order, which change nothing."""

    def check(self, warren, word, things, *refusal):
        before = all_of(warren)
        told = tried(getattr(warren, word), *things)
        self.assertEqual(told, refusal, (word, things))
        self.assertEqual([type(field) for field in told], [type(field) for field in refusal])
        self.assertEqual(all_of(warren), before)

    def test_pull(self):
        warren = warren_of()
        for end in (-1, 2, *HUGE, *NO_NUMBERS):
            self.check(warren, "pull", (end, (9,)), "NoEnd", end)
        for place in ((4,), (-1,), (0, 0), (0, 12), (3, 1), *OTHERS):
            if place not in ((0,), (1,)):
                self.check(warren, "pull", (1, place), "NoPlace", place)
        for place in (STAND[1], (1, 4), (1, 8), (2,)):
            self.check(warren, "pull", (1, place), "Back", place)
        warren.hang(1, 1, 1)
        self.check(warren, "pull", (1, (0,)), "Shut", 1, 1)
        # Of a step that a flap and a knot bar the flap is told.
        warren.narrow(1, 1, 1)
        self.check(warren, "pull", (1, (0,)), "Shut", 1, 1)
        warren.take(1, 1)
        self.check(warren, "pull", (1, (0,)), "Stuck", 0)

    def test_lead(self):
        warren = warren_of()
        for wish in (*OTHERS, list(STAND), [[1, 7], [1, 3]], ((1, 7), (1, 4)), ((0, 7), (0, 3)), (*STAND, (0,))):
            self.check(warren, "lead", (wish,), "NoStand")
        wish = ((0, 11), (0, 7))
        warren.hang(0, 4, -1)
        before = all_of(warren)
        told = tried(warren.lead, wish)
        self.assertEqual((told[0], len(told)), ("Barred", 2))
        self.assertIs(table_holds(warren.house(), ROPE, STAND, wish, told[1]), True)
        self.assertNotIn(wish, [row[:2] for row in told[1]])
        self.assertEqual(all_of(warren), before)

    def test_tie(self):
        warren = warren_of()
        for behind in (-1, 5, *HUGE, *NO_NUMBERS):
            self.check(warren, "tie", (behind, 0), "NoBit", behind)
        for size in (0, -1, WIDE + 1, *HUGE, *NO_NUMBERS):
            self.check(warren, "tie", (0, size), "NoSize", size)
        self.check(warren, "tie", (3, 2), "Twice", 3)
        warren.narrow(1, 5, 2)
        self.check(warren, "tie", (2, 3), "Tight", 1, 5)
        self.assertEqual(warren.tie(2, 2), 2)
        self.assertEqual(warren.tie(1, WIDE), 3)
        self.check(warren, "tie", (2, 2), "Twice", 2)
        self.check(warren, "tie", (4, 1), "Full", "knots")
        self.assertEqual(warren.rope(), (4, ((0, 2), (1, WIDE), (2, 2), (3, 1))))
        # Full comes ahead of Tight.
        warren.narrow(1, 7, 1)
        self.check(warren, "tie", (4, 5), "Full", "knots")
        warren.untie(2)
        self.check(warren, "tie", (4, 5), "Tight", 1, 7)

    def test_untie(self):
        warren = warren_of()
        for knot in (-1, 2, 3, *HUGE, *NO_NUMBERS):
            self.check(warren, "untie", (knot,), "NoKnot", knot)
        warren.untie(1)
        self.check(warren, "untie", (1,), "NoKnot", 1)
        warren.untie(0)
        self.check(warren, "untie", (0,), "NoKnot", 0)

    def test_trim(self):
        warren = warren_of()
        for end in (-1, 2, *HUGE, *NO_NUMBERS):
            self.check(warren, "trim", (end, 0), "NoEnd", end)
        for end in (0, 1):
            for by in (0, -1, 4, 5, *HUGE, *NO_NUMBERS):
                self.check(warren, "trim", (end, by), "NoBy", by)
        warren.trim(0, 3)
        self.check(warren, "trim", (0, 1), "NoBy", 1)
        self.check(warren, "trim", (1, 1), "NoBy", 1)

    def test_narrow(self):
        warren = warren_of()
        for number in (-1, 3, *HUGE, *NO_NUMBERS):
            self.check(warren, "narrow", (number, 0, 0), "NoPipe", number)
        for at in (0, -1, 12, 13, *HUGE, *NO_NUMBERS):
            self.check(warren, "narrow", (0, at, 0), "NoAt", at)
        for width in (0, -1, WIDE + 1, *HUGE, *NO_NUMBERS):
            self.check(warren, "narrow", (0, 1, width), "NoSize", width)
        self.check(warren, "narrow", (1, 3, 1), "Tight", 1, 3)
        self.assertEqual(warren.narrow(1, 3, 2), 1)
        self.check(warren, "narrow", (1, 3, 1), "Tight", 1, 3)
        for at in range(1, 11):
            warren.narrow(0, at, 3)
        # Ten of pipe 0, one of them as it was there, and one of pipe 1.
        warren.narrow(0, 11, 3)
        self.assertEqual(sum(len(row[3]) for row in warren.house()[1]), 12)
        self.check(warren, "narrow", (2, 1, 1), "Full", "narrows")
        self.check(warren, "narrow", (1, 6, 1), "Full", "narrows")
        self.check(warren, "narrow", (1, 3, 1), "Tight", 1, 3)
        self.assertEqual(warren.narrow(0, 11, 4), 13)
        # Full comes ahead of Tight.
        warren.tie(2, 9)
        self.check(warren, "narrow", (1, 5, 1), "Full", "narrows")

    def test_clear(self):
        warren = warren_of()
        for things in (
            (0, 2), (0, 4), (1, 3), (3, 3), (-1, 3), (-3, 3), (0, -9), (0, 10 ** 39), (10 ** 39, 3), (False, 3), (0, True),
            ("0", 3), (0, "3"), ((0, 3), ()), ([], []), ({}, 3), (0, None), (None, None),
        ):
            self.check(warren, "clear", things, "NoNarrow", *things)
        warren.narrow(1, 1, 1)
        self.check(warren, "clear", (True, True), "NoNarrow", True, True)
        self.assertEqual(warren.clear(1, 1), 2)
        self.check(warren, "clear", (1, 1), "NoNarrow", 1, 1)

    def test_hang(self):
        warren = warren_of()
        for number in (-1, 3, *HUGE, *NO_NUMBERS):
            self.check(warren, "hang", (number, -1, 0), "NoPipe", number)
        for at in (-1, 12, 13, *HUGE, *NO_NUMBERS):
            self.check(warren, "hang", (0, at, 0), "NoAt", at)
        for way in (0, 2, -2, *HUGE, *NO_NUMBERS):
            self.check(warren, "hang", (0, 0, way), "NoWay", way)
        for at in (0, 1, 2, 3, 11):
            warren.hang(0, at, -1)
        self.check(warren, "hang", (0, 6, 1), "Full", "flaps")
        self.check(warren, "hang", (2, 0, 1), "Full", "flaps")
        self.assertEqual(warren.hang(0, 11, 1), 6)
        self.assertEqual(warren.house()[1][0][4], ((0, -1), (1, -1), (2, -1), (3, -1), (5, 1), (11, 1)))

    def test_take(self):
        warren = warren_of()
        for things in (
            (0, 4), (0, 6), (1, 5), (3, 5), (-1, 5), (-3, 5), (0, -7), (0, 10 ** 39), (10 ** 39, 5), (False, 5), ("0", 5),
            (0, "5"), ((0, 5), ()), ([], []), ({}, 5), (0, None), (None, None),
        ):
            self.check(warren, "take", things, "NoFlap", *things)
        warren.hang(1, 1, 1)
        warren.hang(1, 0, 1)
        self.check(warren, "take", (True, True), "NoFlap", True, True)
        self.check(warren, "take", (1, False), "NoFlap", 1, False)
        self.assertEqual(warren.take(1, 0), 3)
        self.check(warren, "take", (1, 0), "NoFlap", 1, 0)

    def test_lengthen(self):
        warren = warren_of()
        for number in (-1, 3, *HUGE, *NO_NUMBERS):
            self.check(warren, "lengthen", (number, 0), "NoPipe", number)
        for number in (0, 1):
            for by in (0, -1, LONG, *HUGE, *NO_NUMBERS):
                self.check(warren, "lengthen", (number, by), "NoBy", by)
        self.check(warren, "lengthen", (1, 1), "Under", 1)
        self.assertEqual(warren.lengthen(0, LONG - 12), 1)
        self.check(warren, "lengthen", (0, 1), "NoBy", 1)
        # An end at a room of a pipe has no step of it under the rope.
        warren.pull(1, (0,))
        self.assertEqual(warren.lengthen(2, 1), 3)
        self.check(warren, "lengthen", (1, 1), "Under", 1)
        warren.pull(1, (2, 1))
        self.check(warren, "lengthen", (2, 1), "Under", 2)

    def test_grow(self):
        warren = warren_of()
        for room in (-1, 4, *HUGE, *NO_NUMBERS):
            self.check(warren, "grow", (room, 0), "NoRoom", room)
        for length in (0, -1, LONG + 1, *HUGE, *NO_NUMBERS):
            self.check(warren, "grow", (0, length), "NoBy", length)
        for room in range(4, 16):
            warren.grow(room - 1, LONG)
        self.check(warren, "grow", (16, 0), "NoRoom", 16)
        self.check(warren, "grow", (15, 0), "NoBy", 0)
        self.check(warren, "grow", (15, 1), "Full", "rooms")
        self.check(warren, "halve", (0, 1), "Full", "rooms")
        self.check(warren, "halve", (0, 12), "NoAt", 12)
        self.check(warren, "halve", (15, 12), "NoPipe", 15)

    def test_halve(self):
        warren = warren_of()
        for number in (-1, 3, *HUGE, *NO_NUMBERS):
            self.check(warren, "halve", (number, 0), "NoPipe", number)
        for at in (0, -1, 12, 13, *HUGE, *NO_NUMBERS):
            self.check(warren, "halve", (0, at), "NoAt", at)

    def test_too_many_ahead_of_all_else(self):
        warren = warren_of()
        for number in range(1, 201, 2):
            self.assertEqual(warren.pull(0, (1, 8)), number)
            self.assertEqual(warren.pull(1, (1, 3)), number + 1)
        self.assertEqual(len(warren), 200)
        odd = (None, True, [], (), "x", 10 ** 39)
        for word, many in (
            ("pull", 2), ("lead", 1), ("tie", 2), ("untie", 1), ("trim", 2), ("narrow", 3), ("clear", 2), ("hang", 3),
            ("take", 2), ("lengthen", 2), ("grow", 2), ("halve", 2),
        ):
            for thing in odd:
                self.check(warren, word, (thing,) * many, "TooMany", 200)
        self.check(warren, "tie", (1, 1), "TooMany", 200)
        self.check(warren, "lead", (STAND,), "TooMany", 200)
        self.assertEqual(warren.steps(), 200)
        # Wishes are no deeds.
        warren.keep("a", STAND)
        self.assertEqual(warren.told("a"), ("way", 0))
        self.assertEqual(warren.back(), 199)
        self.assertEqual(warren.tie(1, 1), 200)
        for number in range(199, -1, -1):
            self.assertEqual(warren.back(), number)
        with self.assertRaises(NoBack):
            warren.back()
        self.assertEqual(all_of(warren)[:6], (HOUSE, ROPE, STAND, 0, (), 0))


class Done(unittest.TestCase):
    """Each deed done, by hand."""

    def test_one_behind_another(self):
        warren = warren_of()
        things = (
            ("pull", (1, (2, 2)), HOUSE, ROPE, ((1, 2), (2, 2)), 5),
            ("pull", (0, (1, 8)), HOUSE, ROPE, ((1, 8), (1, 4)), 11),
            ("lead", (((2, 5), (2, 1)),), HOUSE, ROPE, ((2, 5), (2, 1)), None),
            ("tie", (1, 4), HOUSE, (4, ((0, 2), (1, 4), (3, 1))), ((2, 5), (2, 1)), None),
            ("untie", (0,), HOUSE, (4, ((1, 4), (3, 1))), ((2, 5), (2, 1)), None),
            ("trim", (1, 1), HOUSE, (3, ((0, 4), (2, 1))), ((2, 5), (2, 2)), None),
            ("trim", (0, 2), HOUSE, (1, ((0, 4),)), ((2, 3), (2, 2)), None),
        )
        steps = 11 + fewest(HOUSE, ROPE, ((1, 8), (1, 4)), ((2, 5), (2, 1)))
        for number, (word, handed, house, rope, stand, total) in enumerate(things, 1):
            self.assertEqual(getattr(warren, word)(*handed), number)
            told = (warren.house(), warren.rope(), warren.stand(), warren.steps())
            self.assertEqual(told, (house, rope, stand, steps if total is None else total))
            self.assertEqual(warren.deeds(), tuple(row[:2] for row in things[:number]))
            self.assertTrue(is_plain(warren.deeds()))
            self.assertEqual(len(warren), number)
        self.assertEqual(warren.back(), 6)
        self.assertEqual(warren.back(), 5)
        self.assertEqual((warren.rope(), warren.stand()), ((4, ((1, 4), (3, 1))), ((2, 5), (2, 1))))
        for number in (4, 3, 2):
            self.assertEqual(warren.back(), number)
        self.assertEqual(warren.steps(), 11)

    def test_trim_knots(self):
        for end, by, rope, stand in (
            (1, 1, (3, ((2, 1),)), ((1, 7), (1, 4))), (1, 3, (1, ((0, 1),)), ((1, 7), (1, 6))),
            (0, 1, (3, ((0, 2), (3, 1))), ((1, 6), (1, 3))), (0, 2, (2, ((0, 2),)), ((1, 5), (1, 3))),
        ):
            warren = warren_of()
            self.assertEqual(warren.trim(end, by), 1)
            self.assertEqual((warren.rope(), warren.stand()), (rope, stand))

    def test_house(self):
        warren = warren_of()
        one, two, three = HOUSE[1]
        warren.narrow(2, 6, WIDE)
        self.assertEqual(warren.house(), (4, (one, two, pipe(0, 3, 7, ((6, WIDE),)))))
        warren.narrow(2, 1, 1)
        warren.narrow(2, 6, 5)
        self.assertEqual(warren.house(), (4, (one, two, pipe(0, 3, 7, ((1, 1), (6, 5))))))
        warren.clear(2, 6)
        self.assertEqual(warren.house(), (4, (one, two, pipe(0, 3, 7, ((1, 1),)))))
        warren.hang(2, 6, 1)
        warren.hang(2, 0, -1)
        warren.hang(2, 6, -1)
        self.assertEqual(warren.house(), (4, (one, two, pipe(0, 3, 7, ((1, 1),), ((0, -1), (6, -1))))))
        warren.take(2, 0)
        warren.lengthen(2, 3)
        self.assertEqual(warren.house(), (4, (one, two, pipe(0, 3, 10, ((1, 1),), ((6, -1),)))))
        warren.grow(3, 2)
        self.assertEqual(warren.house(), (5, (one, two, pipe(0, 3, 10, ((1, 1),), ((6, -1),)), pipe(3, 4, 2))))
        self.assertEqual((warren.rope(), warren.stand(), warren.steps(), len(warren)), (ROPE, STAND, 0, 10))

    def test_a_stand_led_along_by_halve(self):
        for at, stand in (
            (1, ((3, 2), (3, 6))), (3, ((3, 2), (4,))), (5, ((3, 2), (1, 3))), (7, ((4,), (1, 3))), (8, ((1, 7), (1, 3))),
        ):
            warren = warren_of()
            self.assertEqual(warren.halve(1, at), 1)
            self.assertEqual(warren.stand(), stand)
            self.assertTrue(is_stand(warren.house(), ROPE, stand))
            self.assertEqual(warren.house()[1][1][:3], (0, 4, at))
            self.assertEqual(warren.house()[1][3][:3], (2, 4, 9 - at))
            self.assertEqual(warren.back(), 0)
            self.assertEqual((warren.house(), warren.stand()), (HOUSE, STAND))

    def test_nothing_told_changes_a_warren(self):
        warren = warren_of()
        warren.keep("a", STAND)
        before = all_of(warren)
        self.assertEqual(all_of(warren), before)
        self.assertEqual(copy.deepcopy(HOUSE), HOUSE)

    def test_two_warrens_of_one_house_do_not_meet(self):
        one, other = warren_of(), warren_of()
        one.pull(1, (0,))
        one.keep("a", STAND)
        self.assertEqual((len(other), other.names(), other.stand()), (0, (), STAND))


class Small(unittest.TestCase):

    def check(self, warren, model):
        told = (warren.house(), warren.rope(), warren.stand(), warren.steps())
        self.assertEqual(told, model.state)
        self.assertEqual(warren.deeds(), tuple((word, things) for word, things, before in model.past))
        self.assertEqual(len(warren), len(model.past))
        house, rope = told[:2]
        self.assertEqual(str(warren), "{} rooms, rope {}, {} knots".format(house[0], rope[0], len(rope[1])))

    def test_any_deeds(self):
        """Beside a warren of which all is gone through step by step."""
        met = {}
        for dice, house, brute, rope, start, stands in small_stands(110, 200, starts=1, longest=5, rooms=(1, 6), flaps=3):
            warren, model = Warren(house, rope, start), Model(house, rope, start)
            stood = [model.state]
            for _ in range(40):
                now = model.state
                if dice.random() < 0.12:
                    told, expected = tried(warren.back), model.tried("back")
                    word = "back"
                    stood = stood[:-1] or stood
                else:
                    word = dice.choice(WORDS)
                    stands = Brute(now[0]).stands(now[1]) if word == "lead" else ()
                    things = any_things(dice, word, now[0], now[1], stands)
                    told, expected = tried(getattr(warren, word), *things), model.tried("deed", word, *things)
                    if expected[0] == "done":
                        stood.append(model.state)
                if told[0] == "Barred":
                    self.assertIs(table_holds(*now[:3], things[0], told[1]), True)
                    told = told[:1]
                self.assertEqual(told, expected, (now, word))
                self.check(warren, model)
                met[word, told[0]] = met.get((word, told[0]), 0) + 1
            for state in stood[-2::-1]:
                warren.back()
                self.assertEqual((warren.house(), warren.rope(), warren.stand(), warren.steps()), state)
            self.assertEqual(tried(warren.back), ("NoBack",))
        for row in (
            ("pull", "done"), ("pull", "Shut"), ("pull", "Stuck"), ("pull", "Back"), ("pull", "NoPlace"), ("lead", "done"),
            ("lead", "Barred"), ("lead", "NoStand"), ("tie", "done"), ("tie", "Tight"), ("tie", "Twice"), ("tie", "NoBit"),
            ("untie", "done"), ("trim", "done"), ("narrow", "done"), ("narrow", "Tight"), ("clear", "done"),
            ("hang", "done"), ("hang", "NoWay"), ("take", "done"), ("lengthen", "done"), ("lengthen", "Under"),
            ("grow", "done"), ("halve", "done"), ("back", "done"), ("halve", "NoAt"),
        ):
            self.assertGreater(met.get(row, 0), 2, (row, met))


class Far(unittest.TestCase):

    def test_far_warrens(self):
        dice = dice_of(111)
        leads = 0
        for _ in range(60):
            house = far_house(dice, rooms=8, narrows=4, flaps=1)
            rope, start = any_stand(dice, house, 2)
            warren = Warren(house, rope, start)
            steps = 0
            for _ in range(6):
                stand = warren.stand()
                end = dice.choice((0, 1))
                room = room_beyond(dice, house, stand, end)
                if room is not None:
                    many = dice.randint(1, distance_of(house, stand[end], room))
                    try:
                        warren.pull(end, place_on(house, stand[end], room, many))
                        steps += many
                    except WarrenError as refusal:
                        self.assertIn(fields_of(refusal)[0], ("Shut", "Stuck"))
                wish = any_wish(dice, house, rope, warren.stand())
                many = fewest(house, rope, warren.stand(), wish)
                if many is None:
                    self.assertEqual(tried(warren.lead, wish)[0], "Barred")
                else:
                    warren.lead(wish)
                    steps += many
                    leads += 1
                    self.assertEqual(warren.stand(), wish)
                self.assertEqual(warren.steps(), steps)
            if rope[0] > 2:
                stand, by = warren.stand(), dice.randint(1, rope[0] - 1)
                warren.trim(1, by)
                self.assertEqual(warren.rope(), part(rope, by, rope[0]))
                self.assertEqual(warren.stand(), part_stand(house, stand, by, rope[0]))
            while len(warren):
                warren.back()
            self.assertEqual((warren.house(), warren.rope(), warren.stand(), warren.steps()), (house, rope, start, 0))
        self.assertGreater(leads, 100)

    def test_like_arms(self):
        warren = Warren(star(4, LONG), (LONG, ()), ((1,), (0,)))
        self.assertEqual(warren.lead(((0,), (1,))), 1)
        self.assertEqual(warren.steps(), 3 * LONG)


if __name__ == "__main__":
    unittest.main()
