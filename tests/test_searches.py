"""The order in which halts are gone through: nearest ones first, so that none is gone through in vain."""

import unittest

from ropewarren.searches import put_in
from samples import dice_of


class Waiting(unittest.TestCase):

    def test_the_least_stays_last(self):
        dice = dice_of(49)
        for _ in range(200):
            rows = [(dice.randint(0, 9), ((0,), (dice.randint(0, 3),))) for _ in range(dice.randint(0, 12))]
            waiting = []
            for row in rows:
                put_in(waiting, row)
            self.assertEqual(waiting, sorted(rows, reverse=True))


if __name__ == "__main__":
    unittest.main()
