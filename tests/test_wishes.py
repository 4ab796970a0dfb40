"""[37] wishes of a warren; [3] (f) what wishes are told hangs on how the warren stands alone."""

import unittest

from acts import DEEDS as WORDS
from acts import any_things, tried
from brute import Brute
from far import any_stand, any_wish
from model import Model
from near import small_stands
from ropewarren.tables import table_holds
from ropewarren.verdicts import verdict
from ropewarren.warrens import Warren
from samples import LONG, OTHERS, dice_of, far_house, is_plain, path, pipe, star

HOUSE = (4, (pipe(0, 1, 12), pipe(0, 2, 9, ((2, 1),)), pipe(0, 3, 7)))
ROPE = (4, ((0, 2), (3, 1)))
STAND = ((0, 7), (0, 3))
FAR = ((1, 8), (1, 4))
NO_NAMES = (
    "", "A", "aB", "a b", " a", "a ", "a\n", "a1", "1", "-", "abcdefghi", "a" * 9, "a" * 4000, "_", "a_", "\u00e9", "\u0430",
)


def warren_of():
    return Warren(HOUSE, ROPE, STAND)


class ByHand(unittest.TestCase):

    def refused(self, warren, word, things, *refusal):
        before = (warren.names(), warren.changed(), warren.deeds(), warren.stand())
        told = tried(getattr(warren, word), *things)
        self.assertEqual(told, refusal, (word, things))
        self.assertEqual([type(field) for field in told], [type(field) for field in refusal])
        self.assertEqual((warren.names(), warren.changed(), warren.deeds(), warren.stand()), before)

    def test_kept_and_dropped(self):
        warren = warren_of()
        self.assertEqual(warren.names(), ())
        for name in ("b", "abcdefgh", "a", "zzzzzzzz"):
            self.assertIsNone(warren.keep(name, STAND))
        self.assertEqual(warren.names(), ("a", "abcdefgh", "b", "zzzzzzzz"))
        self.assertTrue(is_plain(warren.names()))
        self.assertIsNone(warren.drop("b"))
        self.assertEqual(warren.names(), ("a", "abcdefgh", "zzzzzzzz"))
        self.assertEqual(len(warren), 0)
        self.assertEqual(warren.deeds(), ())

    def test_refused_to_keep(self):
        warren = warren_of()
        for name in (*NO_NAMES, *OTHERS):
            if name not in ("house",):
                self.refused(warren, "keep", (name, None), "NoName", name)
        warren.keep("a", STAND)
        self.refused(warren, "keep", ("a", STAND), "Twice", "a")
        self.refused(warren, "keep", ("a", None), "Twice", "a")
        for wish in (*OTHERS, list(STAND), ((0, 7), (0, 4)), ((1, 6), (1, 2))):
            self.refused(warren, "keep", ("b", wish), "NoStand")
        for name in "bcdefghij":
            warren.keep(name, STAND)
        self.refused(warren, "keep", ("k", STAND), "Full", "wishes")
        self.refused(warren, "keep", ("k", None), "NoStand")
        self.refused(warren, "keep", ("j", None), "Twice", "j")
        self.refused(warren, "keep", ("K", None), "NoName", "K")
        warren.drop("c")
        warren.keep("k", STAND)
        self.assertEqual(warren.names(), tuple("abdefghijk"))

    def test_no_such_names(self):
        warren = warren_of()
        warren.keep("a", STAND)
        for name in ("b", *NO_NAMES, *OTHERS):
            self.refused(warren, "drop", (name,), "NoName", name)
            self.refused(warren, "told", (name,), "NoName", name)

    def test_told(self):
        warren = warren_of()
        warren.keep("here", STAND)
        warren.keep("there", ((0, 8), (0, 4)))
        warren.keep("far", FAR)
        self.assertEqual(warren.told("here"), ("way", 0))
        self.assertEqual(warren.told("there"), ("way", 1))
        word, table = warren.told("far")
        self.assertEqual(word, "bar")
        self.assertIs(table_holds(HOUSE, ROPE, STAND, FAR, table), True)
        self.assertNotIn(FAR, [row[:2] for row in table])
        self.assertTrue(is_plain(table))
        warren.pull(0, (0, 10))
        self.assertEqual(warren.told("here"), ("way", 3))
        self.assertEqual(warren.told("there"), ("way", 2))

    def test_changed(self):
        warren = warren_of()
        warren.keep("far", FAR)
        warren.keep("here", STAND)
        self.assertEqual(warren.changed(), ())
        warren.clear(1, 2)
        # Asking for what is changed is not being told.
        self.assertEqual(warren.changed(), ("far",))
        self.assertEqual(warren.changed(), ("far",))
        self.assertEqual(warren.told("far")[0], "way")
        self.assertEqual(warren.changed(), ())
        warren.back()
        self.assertEqual(warren.changed(), ("far",))
        self.assertEqual(warren.told("far")[0], "bar")
        self.assertEqual(warren.changed(), ())
        # Other steps are no other word.
        warren.pull(0, (1,))
        self.assertEqual(warren.changed(), ())
        self.assertTrue(is_plain(warren.changed()))

    def test_a_wish_that_is_no_stand_any_more(self):
        warren = warren_of()
        warren.keep("far", FAR)
        warren.keep("here", STAND)
        warren.trim(0, 1)
        self.assertEqual(warren.changed(), ("far", "here"))
        self.refused(warren, "told", ("here",), "NoStand")
        self.assertEqual(warren.names(), ("far", "here"))
        warren.back()
        # It wasn't told, so its word is that of when it was kept.
        self.assertEqual(warren.changed(), ())
        self.assertEqual(warren.told("here"), ("way", 0))
        warren.tie(1, 9)
        warren.pull(1, (0, 2))
        warren.narrow(0, 4, 5)
        self.assertEqual(tried(warren.told, "here"), ("NoStand",))
        self.assertEqual(warren.changed(), ("here",))

    def test_back_leaves_wishes(self):
        warren = warren_of()
        warren.pull(0, (0, 8))
        warren.keep("a", STAND)
        warren.back()
        self.assertEqual(warren.names(), ("a",))
        self.assertEqual(warren.told("a"), ("way", 0))
        warren.grow(1, 9)
        wish = ((3, 8), (3, 4))
        warren.keep("b", wish)
        self.assertEqual(warren.told("b"), ("way", 13))
        warren.back()
        self.assertEqual(tried(warren.told, "b"), ("NoStand",))
        warren.grow(1, 8)
        self.assertEqual(tried(warren.told, "b"), ("NoStand",))
        warren.back()
        warren.grow(1, 9)
        self.assertEqual(warren.told("b")[0], "way")

    def test_led_along_by_halve_and_by_back_of_it(self):
        warren = warren_of()
        warren.keep("a", ((0, 9), (0, 5)))
        self.assertEqual(warren.told("a"), ("way", 2))
        for at in (1, 5, 7, 9, 11):
            warren.halve(0, at)
            self.assertEqual(warren.told("a"), ("way", 2), at)
            if at > 1:
                warren.halve(0, 1)
                self.assertEqual(warren.told("a"), ("way", 2), at)
            warren.keep("new", warren.stand())
            while len(warren):
                warren.back()
            self.assertEqual(warren.told("a"), ("way", 2), at)
            self.assertEqual(warren.told("new"), ("way", 0), at)
            warren.drop("new")
        self.assertEqual(warren.changed(), ())

    def test_places_that_the_house_has_not_are_not_led(self):
        # Room 4 is gone by back; the room that halve makes has its number, and yet isn't it.
        warren = warren_of()
        warren.grow(1, 4)
        warren.keep("a", ((4,), (1,)))
        warren.back()
        self.assertEqual(tried(warren.told, "a"), ("NoStand",))
        warren.halve(2, 1)
        self.assertEqual(tried(warren.told, "a"), ("NoStand",))

    def test_places_beyond_a_pipe_are_not_led(self):
        warren = warren_of()
        warren.lengthen(2, 5)
        warren.keep("a", ((2, 11), (2, 7)))
        warren.back()
        warren.halve(2, 3)
        self.assertEqual(tried(warren.told, "a"), ("NoStand",))
        # So they are places again where the pipe is long enough again.
        warren.lengthen(2, 9)
        self.assertEqual(warren.told("a")[0], "way")

    def test_places_beyond_a_pipe_are_not_led_back(self):
        warren = warren_of()
        warren.halve(2, 3)
        warren.lengthen(3, 10)
        warren.keep("a", ((3, 12), (3, 8)))
        warren.back()
        warren.back()
        self.assertEqual(tried(warren.told, "a"), ("NoStand",))
        warren.grow(0, 20)
        self.assertEqual(warren.told("a")[0], "way")

    def test_nothing_else_changes_a_wish(self):
        warren = Warren(path(3, 9), (4, ()), ((0, 5), (0, 1)))
        warren.keep("a", ((1, 5), (1, 1)))
        warren.keep("b", ((1, 4), (1, 8)))
        warren.lengthen(1, 5)
        self.assertEqual(warren.told("a"), ("way", 9))
        self.assertEqual(warren.told("b")[0], "bar")
        warren.back()
        warren.lead(((0, 6), (0, 2)))
        self.assertEqual(warren.told("a"), ("way", 8))


class Small(unittest.TestCase):

    def ask(self, warren, model, word, *things):
        """The same of both, and whether they tell the same."""
        now = model.state
        told = tried(getattr(warren, word), *things)
        expected = model.tried(word, *things)
        if told[0] == "done" and type(told[1]) is tuple and told[1][:1] == ("bar",):
            self.assertIs(table_holds(*now[:3], model.wishes[things[0]][0], told[1][1]), True)
            told = ("done", ("bar",))
        self.assertEqual(told, expected, (now, word, things))
        return told[0]

    def test_any_deeds_and_wishes(self):
        met = {}
        for dice, house, brute, rope, start, stands in small_stands(120, 150, starts=1, longest=5, rooms=(2, 5), flaps=2):
            warren, model = Warren(house, rope, start), Model(house, rope, start)
            for _ in range(50):
                now = model.state
                choice = dice.random()
                here = Brute(now[0]).stands(now[1])
                name = dice.choice(("a", "b", "c", "d", "A", ""))
                if choice < 0.2:
                    told = self.ask(warren, model, "keep", name, dice.choice([*here, start, None]))
                    met["keep", told] = met.get(("keep", told), 0) + 1
                elif choice < 0.25:
                    self.ask(warren, model, "drop", name)
                elif choice < 0.45:
                    told = self.ask(warren, model, "told", name)
                    met["told", told] = met.get(("told", told), 0) + 1
                elif choice < 0.65:
                    self.assertEqual(tried(warren.back), model.tried("back"))
                else:
                    word = dice.choice((*WORDS, "halve", "halve", "halve"))
                    things = any_things(dice, word, now[0], now[1], here)
                    told = tried(getattr(warren, word), *things)
                    self.assertEqual(told[:1], model.tried("deed", word, *things)[:1])
                self.assertEqual(warren.names(), tuple(sorted(model.wishes)))
                self.assertEqual(warren.changed(), model.changed(), (model.state, model.wishes))
                met["changed"] = met.get("changed", 0) + len(model.changed())
        for row in (("keep", "done"), ("keep", "Twice"), ("told", "done"), ("told", "NoStand"), "changed"):
            self.assertGreater(met.get(row, 0), 10, met)


class Far(unittest.TestCase):

    def test_told_against_verdict(self):
        dice = dice_of(121)
        words = {"way": 0, "bar": 0}
        for _ in range(60):
            house = far_house(dice, rooms=10, narrows=5, flaps=2)
            rope, start = any_stand(dice, house, 2)
            warren = Warren(house, rope, start)
            for name in "abc":
                wish = any_wish(dice, house, rope, start)
                warren.keep(name, wish)
                told, expected = warren.told(name), verdict(house, rope, start, wish)
                self.assertEqual(told[0], expected[0])
                words[told[0]] += 1
                if told[0] == "way":
                    self.assertEqual(told[1], dict((row[:2], row[2]) for row in expected[2])[wish])
                else:
                    self.assertIs(table_holds(house, rope, start, wish, told[1]), True)
        self.assertGreater(min(words.values()), 20, words)

    def test_how_it_came_to_stand_so_does_not_matter(self):
        house = star(4, LONG)
        one = Warren(house, (9, ()), ((0, 20), (0, 11)))
        other = Warren(house, (9, ()), ((0, 30), (0, 21)))
        wish = ((1, 50), (1, 59))
        one.keep("a", wish)
        other.keep("b", wish)
        other.pull(1, (0, 11))
        self.assertTrue(one == other)
        self.assertEqual(one.told("a"), other.told("b"))


if __name__ == "__main__":
    unittest.main()
