"""[14], [15] tables; [3] (b) what a table that holds shows is so."""

import copy
import unittest

from near import small_stands
from ropewarren.tables import table_holds
from samples import LONG, OTHERS, bent, pipe, put, star


def rows_of(heights):
    return tuple(sorted((tail, head, height) for (tail, head), height in heights.items()))


def full_table(brute, rope, start, wish):
    """All halts that can be come to with their fewest steps, by steps made one by one."""
    far = brute.reach(rope, start)
    return rows_of({stand: far[stand] for stand in brute.come_halts(rope, start, wish)})


def with_heights(table, change):
    return tuple((tail, head, change(height)) for tail, head, height in table)


def bent_tables(dice, table, stands):
    """Tables near to a table: most of them are none."""
    row = dice.randrange(len(table))
    tail, head, height = table[row]
    stand = dice.choice(stands)
    yield table[:row] + table[row + 1:]
    yield table[:row + 1] + table[row:]
    yield table[:row] + ((tail, head, height + dice.randint(1, 3)),) + table[row + 1:]
    yield table[:row] + ((tail, head, height - dice.randint(1, 3)),) + table[row + 1:]
    yield table[:row] + ((head, tail, height),) + table[row + 1:]
    yield tuple(sorted(table[:row] + table[row + 1:] + ((head, tail, height),)))
    yield tuple(sorted(table + ((*stand, dice.randint(0, 9)),)))
    yield tuple(sorted(table + ((tail, tail, height),)))
    yield table[::-1]
    yield table[row:] + table[:row]
    yield list(table)
    yield tuple(list(each) for each in table)
    yield with_heights(table, str)
    yield with_heights(table, lambda each: bool(each) if each < 2 else each)
    yield with_heights(table, lambda each: None)
    yield tuple((list(tail), head, height) for tail, head, height in table)
    yield tuple((tail, head) for tail, head, height in table)
    yield tuple(((tail, head), height) for tail, head, height in table)
    yield tuple((tail, head, height, 0) for tail, head, height in table)


class ByHand(unittest.TestCase):

    HOUSE = (2, (pipe(0, 1, 9, (), ((4, 1),)),))
    ROPE = (2, ())
    START = ((0, 5), (0, 7))
    # The flap lets the rope go away from room 0 alone; it is past it already.
    TABLE = (((0, 5), (0, 7), 0), ((0, 7), (1,), 2))

    def holds(self, wish, thing):
        held = copy.deepcopy(thing)
        told = table_holds(self.HOUSE, self.ROPE, self.START, wish, thing)
        self.assertIs(table_holds(self.HOUSE, self.ROPE, self.START, wish, thing), told)
        self.assertEqual(thing, held)
        return told

    def test_a_table(self):
        self.assertIs(self.holds(((0,), (0, 2)), self.TABLE), True)
        self.assertIs(self.holds(self.START, self.TABLE), True)
        self.assertIs(self.holds(((0, 7), (1,)), self.TABLE), True)

    def test_a_wish_on_the_way_is_a_halt(self):
        wish = ((0, 6), (0, 8))
        self.assertIs(self.holds(wish, self.TABLE), False)
        # At 0 the last row would be too high, by one step from the wish.
        for height, told in ((0, False), (1, True), (2, False)):
            with_wish = tuple(sorted(self.TABLE + ((*wish, height),)))
            self.assertIs(self.holds(wish, with_wish), told, height)

    def test_heights(self):
        for last, told in ((0, True), (1, True), (2, True), (3, False), (-1, False), (True, False), ("2", False)):
            self.assertIs(self.holds(self.START, put(self.TABLE, (1, 2), last)), told, last)
        for first in (1, 2, -1, False, None, "0"):
            self.assertIs(self.holds(self.START, put(self.TABLE, (0, 2), first)), False, first)

    def test_the_start_is_in_it(self):
        self.assertIs(self.holds(self.START, ()), False)
        self.assertIs(self.holds(self.START, self.TABLE[1:]), False)
        self.assertIs(self.holds(self.START, self.TABLE[:1]), False)

    def test_more_rows_than_needed(self):
        more = self.TABLE + (((1,), (0, 7), 9),)
        self.assertIs(self.holds(self.START, more), False)
        # Both halts of that stand, with their halts in turn: it lies the other way about.
        rows = {((1,), (0, 7)): 9, ((0, 7), (0, 5)): 11}
        self.assertIs(self.holds(self.START, tuple(sorted(self.TABLE + rows_of(rows)))), True)
        rows[(0, 7), (0, 5)] = 12
        self.assertIs(self.holds(self.START, tuple(sorted(self.TABLE + rows_of(rows)))), False)

    def test_rising_and_none_twice(self):
        self.assertIs(self.holds(self.START, self.TABLE[::-1]), False)
        self.assertIs(self.holds(self.START, self.TABLE + self.TABLE[1:]), False)
        self.assertIs(self.holds(self.START, self.TABLE[:1] + ((*self.TABLE[1][:2], 1),) + self.TABLE[1:]), False)

    def test_far(self):
        house = star(4, LONG)
        rope = (LONG, ())
        rooms = [(room,) for room in range(1, 4)]
        heights = {(tail, (0,)): LONG if tail != (1,) else 0 for tail in rooms}
        heights.update({((0,), head): LONG if head != (1,) else 3 * LONG for head in rooms})
        heights.update({((2,), (0,)): 2 * LONG, ((3,), (0,)): 2 * LONG})
        start = ((1,), (0,))
        self.assertIs(table_holds(house, rope, start, start, rows_of(heights)), True)
        heights[(0,), (1,)] += 1
        self.assertIs(table_holds(house, rope, start, start, rows_of(heights)), False)
        heights[(0,), (1,)] -= LONG
        self.assertIs(table_holds(house, rope, start, start, rows_of(heights)), True)

    def test_a_knot_at_a_narrow_place_makes_no_stand(self):
        house = (2, (pipe(0, 1, 9, ((4, 1),)),))
        rope = (2, ((1, 2),))
        start = ((0, 4), (0, 6))
        table = (((0, 4), (0, 6), 0), ((0, 7), (1,), 3))
        self.assertIs(table_holds(house, rope, start, start, table), True)
        self.assertIs(table_holds(house, rope, start, start, (((0, 3), (0, 5), 9),) + table), False)

    def test_other_things(self):
        for thing in OTHERS + (tuple([self.TABLE[0]] * 3000), [self.TABLE], (self.TABLE,), {0: self.TABLE}):
            self.assertIs(self.holds(self.START, thing), False, thing)


class Small(unittest.TestCase):

    def check_shown(self, brute, rope, start, wish, table):
        """What is let by shows what is so."""
        far = brute.reach(rope, start)
        heights = {row[:2]: row[2] for row in table}
        if wish not in heights:
            self.assertNotIn(wish, far)
        elif wish in far:
            self.assertLessEqual(heights[wish], far[wish])

    def test_full_tables(self):
        for dice, house, brute, rope, start, stands in small_stands(25, 150):
            wish = dice.choice(stands)
            table = full_table(brute, rope, start, wish)
            top = max(height for tail, head, height in table)
            cut = dice.randint(0, top)
            tables = (
                table, with_heights(table, lambda height: height // 2), with_heights(table, lambda height: 0),
                with_heights(table, lambda height: min(height, cut)), rows_of(brute.reach(rope, start)),
                rows_of({stand: 0 for stand in stands}),
            )
            for each in tables:
                self.assertIs(table_holds(house, rope, start, wish, each), True, (house, rope, start, wish, each))
                self.check_shown(brute, rope, start, wish, each)

    def test_bent_tables(self):
        answers = {True: 0, False: 0}
        for dice, house, brute, rope, start, stands in small_stands(26, 120):
            wish = dice.choice(stands)
            table = full_table(brute, rope, start, wish)
            for thing in list(bent_tables(dice, table, stands)) + [bent(dice, table) for _ in range(8)]:
                told = brute.table(rope, start, wish, thing) is not None
                self.assertIs(
                    table_holds(house, rope, start, wish, thing), told, (house, rope, start, wish, thing),
                )
                answers[told] += 1
                if told:
                    self.check_shown(brute, rope, start, wish, thing)
        self.assertGreater(min(answers.values()), 300, answers)

    def test_another_start_or_wish(self):
        seen = {True: 0, False: 0}
        for dice, house, brute, rope, start, stands in small_stands(27, 150):
            table = full_table(brute, rope, start, start)
            for _ in range(4):
                first, wish = dice.choice((start, dice.choice(stands))), dice.choice(stands)
                told = brute.table(rope, first, wish, table) is not None
                self.assertIs(table_holds(house, rope, first, wish, table), told)
                seen[told] += 1
        self.assertGreater(min(seen.values()), 150, seen)

    def test_each_single_height(self):
        for dice, house, brute, rope, start, stands in small_stands(28, 40, starts=1):
            table = full_table(brute, rope, start, start)
            for row in range(len(table)):
                for by in (-1, 1):
                    thing = put(table, (row, 2), table[row][2] + by)
                    told = brute.table(rope, start, start, thing) is not None
                    self.assertIs(table_holds(house, rope, start, start, thing), told)


if __name__ == "__main__":
    unittest.main()
