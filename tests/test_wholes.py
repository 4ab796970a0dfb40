"""[2] whole numbers; the numbers of [4], [7] and [9]."""

import unittest

from ropewarren import wholes
from ropewarren.wholes import is_whole, is_within


class Wholes(unittest.TestCase):

    def test_ints_are_whole(self):
        for thing in (0, 1, -1, 2, 16, 10 ** 12, 10 ** 14, 10 ** 40 - 1, -(10 ** 40 - 1)):
            self.assertIs(is_whole(thing), True, thing)

    def test_truths_are_none(self):
        self.assertIs(is_whole(True), False)
        self.assertIs(is_whole(False), False)

    def test_other_things_are_none(self):
        for thing in (None, "", "1", "-1", (), (1,), [], [1], {}, {1: 1}, ((1,),), "a" * 4000, 1.0):
            self.assertIs(is_whole(thing), False, thing)

    def test_within_counts_both_bounds_in(self):
        answers = [is_within(thing, 2, 4) for thing in (1, 2, 3, 4, 5)]
        self.assertEqual(answers, [False, True, True, True, False])

    def test_within_takes_whole_numbers_alone(self):
        for thing in (True, False, None, "1", (1,), [1], {1: 1}):
            self.assertIs(is_within(thing, 0, 9), False, thing)


class Names(unittest.TestCase):

    def test_numbers(self):
        told = {
            "ROOMS": 16, "LONG": 10 ** 12, "WIDE": 10 ** 6, "NARROWS": 12, "FLAPS": 6,
            "REACH": 10 ** 14, "KNOTS": 4, "TAIL": 0, "HEAD": 1,
        }
        for name, number in told.items():
            self.assertEqual(getattr(wholes, name), number, name)
            self.assertIs(type(getattr(wholes, name)), int, name)


if __name__ == "__main__":
    unittest.main()
