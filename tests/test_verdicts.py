"""[16], [17], [18] verdicts; [3] (a) a way or a table that bars it, never both, (b) what is let by is so."""

import copy
import unittest

from brute import HEAD, TAIL, Brute
from far import any_place, any_stand, any_wish
from near import small_stands
from ropewarren.errors import Barred
from ropewarren.places import distance_of, place_on
from ropewarren.pulls import steps_of, way_holds
from ropewarren.ropes import is_stand
from ropewarren.tables import table_holds
from ropewarren.verdicts import distance, verdict, verdict_holds
from samples import LONG, OTHERS, bent, dice_of, far_house, is_plain, path, pipe, put, star
from scaled import scaled_house, scaled_rope, scaled_stand


def table_in(told):
    return {row[:2]: row[2] for row in told[-1]}


def distance_or_table(house, rope, start, wish):
    """The distance, or the table of Barred."""
    try:
        return distance(house, rope, start, wish), None
    except Barred as refusal:
        assert type(refusal) is Barred
        return None, refusal.table


class ByHand(unittest.TestCase):

    def check(self, house, rope, start, wish, steps):
        told = verdict(house, rope, start, wish)
        self.assertEqual(verdict(house, rope, start, wish), told)
        self.assertIs(verdict_holds(house, rope, start, wish, told), True)
        self.assertTrue(is_plain(told))
        found, table = distance_or_table(house, rope, start, wish)
        self.assertEqual(found, steps)
        if steps is None:
            self.assertEqual((told[0], len(told)), ("bar", 2))
            self.assertNotIn(wish, table_in(told))
            self.assertIs(verdict_holds(house, rope, start, wish, ("bar", table)), True)
        else:
            self.assertEqual((told[0], len(told)), ("way", 3))
            self.assertEqual(table_in(told)[wish], steps)
            self.assertEqual(steps_of(house, rope, start, told[1]), steps)

    def test_to_itself(self):
        for stand in (((0,), (0, 3)), ((0, 2), (0, 5)), ((0, 6), (1,))):
            told = verdict(path(2, 9), (3, ()), stand, stand)
            self.assertEqual(told[:2], ("way", ()))
            self.check(path(2, 9), (3, ()), stand, stand, 0)

    def test_a_stuck_rope(self):
        house = path(2, LONG)
        rope = (LONG, ())
        stand = ((0,), (1,))
        self.assertEqual(verdict(house, rope, stand, stand), ("way", (), ((*stand, 0),)))
        self.assertEqual(verdict(house, rope, stand, stand[::-1]), ("bar", ((*stand, 0),)))

    def test_along_one_pipe(self):
        house = path(2, LONG)
        self.check(house, (3, ()), ((0,), (0, 3)), ((0, LONG - 3), (1,)), LONG - 3)
        self.check(house, (3, ()), ((0, 9), (0, 12)), ((0, 7), (0, 10)), 2)
        self.check(house, (3, ()), ((0,), (0, 3)), ((0, 3), (0,)), None)

    def test_turned_about(self):
        house = star(4, LONG)
        self.check(house, (5, ()), ((0, 5), (0,)), ((0,), (0, 5)), 15)
        self.check(house, (LONG, ()), ((1,), (0,)), ((0,), (1,)), 3 * LONG)
        self.check(house, (LONG + 1, ()), ((1,), (1, 1)), ((1, 1), (1,)), None)
        uneven = (4, (pipe(0, 1, LONG), pipe(0, 2, 7), pipe(0, 3, LONG)))
        self.check(uneven, (7, ()), ((0, 7), (0,)), ((0,), (0, 7)), 21)
        self.check(uneven, (8, ()), ((0, 8), (0,)), ((0,), (0, 8)), None)

    def test_flaps(self):
        house = (2, (pipe(0, 1, LONG, (), ((500, 1),)),))
        self.check(house, (3, ()), ((0,), (0, 3)), ((0, 600), (0, 603)), 600)
        self.check(house, (3, ()), ((0, 600), (0, 603)), ((0,), (0, 3)), None)
        self.check(house, (3, ()), ((0, 600), (0, 603)), ((0, 501), (0, 504)), 99)
        self.check(house, (3, ()), ((0, 600), (0, 603)), ((0, 500), (0, 503)), None)

    def test_knots(self):
        house = (2, (pipe(0, 1, LONG, ((500, 2),)),))
        self.check(house, (3, ((1, 2),)), ((0,), (0, 3)), ((0, 600), (0, 603)), 600)
        self.check(house, (3, ((1, 3),)), ((0,), (0, 3)), ((0, 600), (0, 603)), None)
        self.check(house, (3, ((1, 3),)), ((0,), (0, 3)), ((0, 497), (0, 500)), 497)
        self.check(house, (3, ((1, 3),)), ((0,), (0, 3)), ((0, 499), (0, 502)), None)

    def test_a_way_round_about(self):
        # The knot passes neither pipe 0 nor pipe 1, so the rope must be turned in the far ones.
        house = (5, (pipe(0, 1, 8, ((6, 1),)), pipe(0, 2, 8), pipe(0, 3, 4), pipe(0, 4, 3)))
        rope = (3, ((0, 2),))
        self.check(house, rope, ((0, 4), (0, 1)), ((0, 1), (0, 4)), 4 + 3 + 4)
        self.check(house, rope, ((0, 4), (0, 1)), ((0, 4), (0, 7)), None)

    def test_the_shorter_of_two_ways(self):
        # To turn about by the longer pipes would take more steps than by the shortest that will do.
        house = (5, (pipe(0, 1, 9), pipe(0, 2, 9), pipe(0, 3, 5), pipe(0, 4, 4)))
        self.check(house, (5, ()), ((0, 9 - 3), (0, 1)), ((0, 1), (0, 6)), 6 + 5 + 6)


class Bent(unittest.TestCase):

    HOUSE = star(4, 5)
    ROPE = (3, ())
    START = ((0, 4), (0, 1))
    WISH = ((0, 1), (0, 4))

    def holds(self, wish, thing):
        held = copy.deepcopy(thing)
        told = verdict_holds(self.HOUSE, self.ROPE, self.START, wish, thing)
        self.assertIs(verdict_holds(self.HOUSE, self.ROPE, self.START, wish, thing), told)
        self.assertEqual(thing, held)
        return told

    def test_of_a_way(self):
        word, way, table = told = verdict(self.HOUSE, self.ROPE, self.START, self.WISH)
        self.assertIs(self.holds(self.WISH, told), True)
        longer = ((HEAD, (0,)), (TAIL, (0, 4))) + way
        self.assertIs(way_holds(self.HOUSE, self.ROPE, self.START, self.WISH, longer), True)
        low = tuple((tail, head, 0) for tail, head, height in table)
        self.assertIs(table_holds(self.HOUSE, self.ROPE, self.START, self.WISH, low), True)
        for thing in (
            ("bar", way, table), ("bar", table), ("way", table), ("way", way), ("way", table, way), (way, table),
            ("Way", way, table), (word, way, table, ()), ["way", way, table], (word, list(way), table),
            (word, way, list(table)), (word, way[1:], table), (word, way[:-1], table), (word, longer, table),
            (word, way, low), (word, way, ()), (word, way, table[1:]), (word, way, table[:-1]), (word, (), table),
            (None, way, table), (("way",), way, table), (["way"], way, table), ({}, way, table), (word, None, table),
            (word, way, None), (True, way, table), "way", (word,), ("", way, table),
        ):
            self.assertIs(self.holds(self.WISH, thing), False, thing)
        self.assertIs(self.holds(self.START, told), False)

    def test_of_a_bar(self):
        house = path(3, 5)
        rope = (3, ())
        start, wish = ((0, 1), (0, 4)), ((0, 4), (0, 1))
        word, table = told = verdict(house, rope, start, wish)
        self.assertIs(verdict_holds(house, rope, start, wish, told), True)
        for thing in (
            ("way", table), ("way", (), table), ("bar", (), table), ("bar",), ("bar", ()), ("bar", table, ()),
            ["bar", table], ("bar", list(table)), ("bar", table[1:]), ("bar", table[:-1]), (None, table), (table, "bar"),
            ("bar", (table,)), ("BAR", table), ("bar", table[::-1]), (["bar"], table), ("bar", None), (True, table),
        ):
            self.assertIs(verdict_holds(house, rope, start, wish, thing), False, thing)
        self.assertIs(verdict_holds(house, rope, start, start, told), False)

    def test_a_table_with_the_wish_bars_nothing(self):
        stands = [(tail, head) for tail in Brute(self.HOUSE).places for head in Brute(self.HOUSE).places]
        table = tuple(sorted((*stand, 0) for stand in stands if is_stand(self.HOUSE, self.ROPE, stand)))
        self.assertIs(table_holds(self.HOUSE, self.ROPE, self.START, self.WISH, table), True)
        self.assertIs(self.holds(self.WISH, ("bar", table)), False)
        self.assertIs(self.holds(self.START, ("way", (), table)), True)

    def test_other_things(self):
        for thing in OTHERS:
            for wish in (self.START, self.WISH):
                self.assertIs(self.holds(wish, thing), False, thing)
                self.assertIs(self.holds(wish, ("bar", thing)), False, thing)
                self.assertIs(self.holds(wish, ("way", (), thing)), False, thing)
                self.assertIs(self.holds(wish, ("way", thing, ((*self.START, 0),))), False, thing)


class Small(unittest.TestCase):

    def check(self, house, brute, rope, start, wish, far):
        case = (house, rope, start, wish)
        told = verdict(*case)
        steps, table = distance_or_table(*case)
        self.assertTrue(is_plain(told))
        self.assertLessEqual(len(told[-1]), 20000)
        self.assertIs(verdict_holds(*case, told), True, case)
        self.assertIs(brute.verdict(rope, start, wish, told), True, case)
        if wish in far:
            self.assertEqual(told[0], "way", case)
            self.assertEqual(steps, far[wish], case)
            self.assertEqual(brute.way(rope, start, wish, told[1]), far[wish], case)
            self.assertEqual(table_in(told)[wish], far[wish], case)
        else:
            self.assertEqual(told[0], "bar", case)
            self.assertIsNone(steps)
            self.assertNotIn(wish, table_in(told))
            self.assertIsNotNone(brute.table(rope, start, wish, table))
            self.assertNotIn(wish, {row[:2] for row in table})
        return told[0]

    def test_all_wishes(self):
        words = {"way": 0, "bar": 0}
        for dice, house, brute, rope, start, stands in small_stands(29, 90, starts=2, longest=3):
            far = brute.reach(rope, start)
            for wish in stands:
                words[self.check(house, brute, rope, start, wish, far)] += 1
        self.assertGreater(min(words.values()), 300, words)

    def test_longer_pipes_and_ropes(self):
        words = {"way": 0, "bar": 0}
        for dice, house, brute, rope, start, stands in small_stands(
            30, 150, starts=2, longest=8, longest_rope=9, narrows=5, flaps=4, rooms=(3, 6),
        ):
            far = brute.reach(rope, start)
            for wish in dice.sample(stands, min(3, len(stands))) + [dice.choice(list(far))]:
                words[self.check(house, brute, rope, start, wish, far)] += 1
        self.assertGreater(min(words.values()), 200, words)

    def test_without_knots_and_flaps(self):
        for dice, house, brute, rope, start, stands in small_stands(31, 60, knots=0, flaps=0, longest=5):
            far = brute.reach(rope, start)
            for wish in dice.sample(stands, min(5, len(stands))) + [start[::-1]]:
                self.check(house, brute, rope, start, wish, far)

    def test_bent_verdicts(self):
        answers = {True: 0, False: 0}
        for dice, house, brute, rope, start, stands in small_stands(32, 120):
            wish = dice.choice(stands)
            told = verdict(house, rope, start, wish)
            things = [bent(dice, told) for _ in range(6)] + [put(told, (0,), "bar"), put(told, (0,), "way")]
            # Leaves of the table alone, so that it is often still one.
            for _ in range(4):
                row = dice.randrange(len(told[-1]))
                things.append(put(told, (len(told) - 1, row, 2), dice.randint(0, told[-1][row][2])))
            for thing in things:
                held = brute.verdict(rope, start, wish, thing)
                self.assertIs(verdict_holds(house, rope, start, wish, thing), held, (house, rope, start, wish, thing))
                answers[held] += 1
                self.check_shown(brute, rope, start, wish, thing, held)
        self.assertGreater(min(answers.values()), 300, answers)

    def check_shown(self, brute, rope, start, wish, thing, held):
        """What is let by shows what is so."""
        if held:
            far = brute.reach(rope, start)
            self.assertEqual(thing[0], "way" if wish in far else "bar")
            if thing[0] == "way":
                self.assertEqual(brute.way(rope, start, wish, thing[1]), far[wish])


class Far(unittest.TestCase):

    def test_what_is_told_is_let_by(self):
        dice = dice_of(33)
        words = {"way": 0, "bar": 0}
        for _ in range(400):
            house = far_house(dice, narrows=dice.choice((0, 2, 12)), flaps=dice.choice((0, 0, 1, 2, 6)))
            rope, start = any_stand(dice, house, dice.choice((0, 1, 4)))
            wish = any_wish(dice, house, rope, start)
            told = verdict(house, rope, start, wish)
            self.assertTrue(is_plain(told))
            self.assertLessEqual(len(told[-1]), 20000)
            self.assertIs(verdict_holds(house, rope, start, wish, told), True)
            self.assertIs(table_holds(house, rope, start, wish, told[-1]), True)
            steps, table = distance_or_table(house, rope, start, wish)
            if told[0] == "way":
                self.assertIs(way_holds(house, rope, start, wish, told[1]), True)
                self.assertEqual(steps, steps_of(house, rope, start, told[1]))
            else:
                self.assertIs(verdict_holds(house, rope, start, wish, ("bar", table)), True)
            words[told[0]] += 1
        self.assertGreater(min(words.values()), 80, words)

    def test_short_ropes_in_far_houses(self):
        dice = dice_of(34)
        for _ in range(40):
            house = far_house(dice, narrows=12, flaps=2)
            tail = any_place(dice, house)
            room = next((room,) for room in range(16) if (room,) != tail)
            length = min(distance_of(house, tail, room), dice.choice((1, 2, 30, LONG)))
            rope = (length, ((0, 1), (length, 1)))
            start = (tail, place_on(house, tail, room, length))
            wish = any_wish(dice, house, rope, start)
            told = verdict(house, rope, start, wish)
            self.assertIs(verdict_holds(house, rope, start, wish, told), True)

    def test_without_flaps_distances_are_alike_either_way_about(self):
        dice = dice_of(35)
        for _ in range(80):
            house = far_house(dice, narrows=3, flaps=0)
            rope, start = any_stand(dice, house)
            wish = any_wish(dice, house, rope, start)
            self.assertEqual(
                distance_or_table(house, rope, start, wish)[0], distance_or_table(house, rope, wish, start)[0],
            )

    def test_small_houses_made_large(self):
        """Stands that lead to one another still do, in as many times the steps as all is larger."""
        by = LONG // 4
        words = {"way": 0, "bar": 0}
        for dice, house, brute, rope, start, stands in small_stands(36, 150, starts=2):
            far = brute.reach(rope, start)
            for wish in dice.sample(stands, min(4, len(stands))):
                large = (
                    scaled_house(house, by), scaled_rope(rope, by), scaled_stand(start, by), scaled_stand(wish, by),
                )
                told = verdict(*large)
                self.assertIs(verdict_holds(*large, told), True)
                self.assertEqual(told[0], "way" if wish in far else "bar", (house, rope, start, wish))
                steps = far[wish] * by if wish in far else None
                self.assertEqual(distance_or_table(*large)[0], steps, (house, rope, start, wish))
                words[told[0]] += 1
        self.assertGreater(min(words.values()), 100, words)


if __name__ == "__main__":
    unittest.main()
