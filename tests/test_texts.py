"""[38] texts, written and read back."""

import re
import unittest

from far import any_place, any_stand
from ropewarren.errors import NoText
from ropewarren.houses import is_house
from ropewarren.ropes import is_rope
from ropewarren.texts import (
    house_text, place_text, read_house, read_place, read_rope, read_stand, rope_text, stand_text,
)
from samples import LONG, OTHERS, dice_of, far_house, is_plain, path, random_house

NUMBER = r"(?:0|[1-9][0-9]*)"
SHORT = r"(?:0|[1-9][0-9]{0,14})"
PLACE = rf"{SHORT}(?:\+[1-9][0-9]{{0,14}})?"
ROPE = rf"{NUMBER}(?: {NUMBER}x{NUMBER})*"
PIPE = rf"{NUMBER} {NUMBER} {NUMBER}(?: {NUMBER}x{NUMBER})*(?: {NUMBER}[<>])*"
HOUSE = rf"{NUMBER}(?:, {PIPE})*"
# Figures in other scripts, and other signs beside what belongs there.
SIGNS = "0123456789x+<>, -_.X\n\t/:;=ab" + "\u0663\u00b2\u096a\u2460\uff11\u00bd"


def place_in(text):
    return tuple(int(word) for word in text.split("+"))


def rope_in(text):
    length, *knots = text.split(" ")
    return (int(length), tuple(tuple(int(part) for part in knot.split("x")) for knot in knots))


def pipe_in(text):
    words = text.split(" ")
    narrows = tuple(tuple(int(part) for part in word.split("x")) for word in words[3:] if "x" in word)
    flaps = tuple((int(word[:-1]), 1 if word[-1] == ">" else -1) for word in words[3:] if "x" not in word)
    return (*(int(word) for word in words[:3]), narrows, flaps)


def expected_of(kind, text):
    """What a text is to be read as, None for NoText: by patterns, and what is_rope and is_house tell."""
    if type(text) is not str or "\n" in text:
        return None
    if kind == "place":
        return place_in(text) if re.fullmatch(PLACE, text, re.ASCII) else None
    if kind == "stand":
        if re.fullmatch(f"{PLACE} {PLACE}", text, re.ASCII):
            return tuple(place_in(word) for word in text.split(" "))
        return None
    if kind == "rope":
        thing = rope_in(text) if re.fullmatch(ROPE, text, re.ASCII) else None
        return thing if is_rope(thing) else None
    thing = None
    if re.fullmatch(HOUSE, text, re.ASCII):
        rooms, *pipes = text.split(", ")
        thing = (int(rooms), tuple(pipe_in(pipe) for pipe in pipes))
    return thing if is_house(thing) else None


READ = {"place": read_place, "stand": read_stand, "rope": read_rope, "house": read_house}
WRITE = {"place": place_text, "stand": stand_text, "rope": rope_text, "house": house_text}


def bent_text(dice, text):
    """A text with some signs put in, left out, changed or moved."""
    for _ in range(dice.choice((1, 1, 1, 2))):
        at = dice.randrange(len(text) + 1)
        sign = dice.choice(SIGNS)
        choice = dice.randrange(6)
        if choice == 0:
            text = text[:at] + sign + text[at:]
        elif choice == 1:
            text = text[:at] + text[at + 1:]
        elif choice == 2:
            text = text[:at] + sign + text[at + 1:]
        elif choice == 3:
            text = text[:at] + text[at:at + 1] + text[at:]
        elif choice == 4:
            text = text[:at] + "0" + text[at:]
        else:
            words = text.split(" ")
            one, other = dice.randrange(len(words)), dice.randrange(len(words))
            words[one], words[other] = words[other], words[one]
            text = " ".join(words)
    return text


class Texts(unittest.TestCase):

    def check(self, kind, text):
        """That a text, or anything, is read as it is to be."""
        expected = expected_of(kind, text)
        if expected is None:
            with self.assertRaises(NoText, msg=(kind, text)) as caught:
                READ[kind](text)
            self.assertIs(type(caught.exception), NoText)
            self.assertEqual(vars(caught.exception), {})
            return False
        told = READ[kind](text)
        self.assertEqual(told, expected, text)
        self.assertTrue(is_plain(told))
        self.assertEqual(WRITE[kind](told), text)
        return True

    def both(self, kind, thing, text):
        self.assertEqual(WRITE[kind](thing), text)
        self.assertEqual(READ[kind](text), thing)
        self.assertIs(type(WRITE[kind](thing)), str)
        self.assertTrue(self.check(kind, text))

    def test_by_hand(self):
        for kind, thing, text in (
            ("place", (3,), "3"), ("place", (0,), "0"), ("place", (2, 15), "2+15"), ("place", (0, 1), "0+1"),
            ("stand", ((3,), (2, 15)), "3 2+15"), ("stand", ((0, 1), (0, 2)), "0+1 0+2"), ("stand", ((5,), (5,)), "5 5"),
            ("rope", (12, ((0, 3), (7, 1))), "12 0x3 7x1"), ("rope", (1, ()), "1"),
            ("rope", (10 ** 14, ((10 ** 14, 10 ** 6),)), "100000000000000 100000000000000x1000000"),
            ("house", (3, ((0, 1, 12, ((3, 2),), ((5, 1), (9, -1))), (1, 2, 7, (), ()))), "3, 0 1 12 3x2 5> 9<, 1 2 7"),
            ("house", (1, ()), "1"), ("house", (2, ((0, 1, 1, (), ((0, -1),)),)), "2, 0 1 1 0<"),
            ("house", path(2, LONG), "2, 0 1 1000000000000"),
        ):
            self.both(kind, thing, text)

    def test_no_texts(self):
        for kind, texts in (
            ("place", (
                "", " ", "+", "3+", "+3", "2+0", "2+00", "2+015", "02+15", "00", "03", "-1", "2+-1", "2++15", "2+15+1",
                " 2+15", "2+15 ", "2 +15", "2+ 15", "2+15\n", "\n2", "2\n", "1_0", "1e3", "\u0663", "2+\u0663", "\u00b2",
                "2-15", "3 3", "1" * 16, "2+" + "1" * 16, "1" * 16 + "+2", "1" * 4000, "1" * 5000, "+1", "0x1",
            )),
            ("stand", (
                "", " ", "3", "3 ", " 3", "3  3", "3 3 3", "3 2+0", "3\n3", "3 3\n", "3,3", "3, 3", "03 3", "3 03", "3\t3",
                "1" * 16 + " 1", "\u0663 3",
            )),
            ("rope", (
                "", " ", "0", "012", "12 ", " 12", "12  0x3", "12 0x3 ", "12 x3", "12 0x", "12 x", "12 0x3x1", "12 0X3",
                "12 7x1 0x3", "12 0x3 0x4", "12 0x3 0x3", "12 13x1", "12 0x0", "12 0x1000001", "100000000000001",
                "12 00x3", "12 0x03", "12, 0x3", "12\n", "12 0x3\n", "-12", "12 -1x1", "12 0x3 1x3 2x3 3x3 4x3", "x", "0x3",
                "1" * 16, "12 3", "\u0661\u0662", "12 0\u00d73",
            )),
            ("house", (
                "", " ", "0", "2", "17", "01", "1 ", "1,", "1, ", "2,0 1 12", "2,  0 1 12", "2, 0 1 12 ", "2, 0 1", "2, 0 1 0",
                "2, 1 0 12", "2, 0 2 12", "2, 0 1 1000000000001", "2, 0 1 12 5> 3x2", "2, 0 1 12 3x2 3x4", "2, 0 1 12 5> 5<",
                "2, 0 1 12 9> 5<", "2, 0 1 12 0x2", "2, 0 1 12 12x2", "2, 0 1 12 12>", "2, 0 1 12 11>>", "2, 0 1 12 >",
                "2, 0 1 12 5", "2, 0 1 12 5=", "2, 0 1 12 05>", "2, 0 1 012", "3, 0 1 12", "3, 0 1 12, 0 1 7", "3, 0 1 12; 1 2 7",
                "2, 0 1 12\n", "2\n0 1 12", "2, 0 1 12, ", ", 0 1 12", "2, 0 1 12 x", "2, 0 1 12 3x", "2, 0 1 12  3x2",
                "2, 0 1 12 3x2>", "2, 0 1 12 3x2<", "2, 0 1 \u0661\u0662",
            )),
        ):
            for text in texts:
                self.assertFalse(self.check(kind, text), (kind, text))

    def test_fifteen_and_sixteen_figures(self):
        most = 10 ** 15 - 1
        self.both("place", (most,), "9" * 15)
        self.both("place", (most, most), "9" * 15 + "+" + "9" * 15)
        self.both("stand", ((most,), (0, most)), "9" * 15 + " 0+" + "9" * 15)
        for text in ("1" + "0" * 15, "0+1" + "0" * 15, "1" + "0" * 15 + "+1", "0" * 16, "0" * 15):
            self.assertFalse(self.check("place", text))
            self.assertFalse(self.check("stand", "0 " + text))

    def test_other_things(self):
        for kind in READ:
            for thing in (*OTHERS, 3, (3,), [3], (2, 15), ((3,), (3,)), (12, ()), (1, ()), 1.5, b"3"):
                if not (type(thing) is str and expected_of(kind, thing) is not None):
                    self.assertFalse(self.check(kind, thing))

    def test_there_and_back_and_bent(self):
        dice = dice_of(130)
        met = {(kind, held): 0 for kind in READ for held in (True, False)}
        for _ in range(300):
            house = dice.choice((random_house, far_house))(dice)
            rope, stand = any_stand(dice, house) if house[0] > 1 else ((3, ((1, 1),)), ((0,), (0,)))
            for kind, thing in (
                ("house", house), ("rope", rope), ("stand", stand), ("place", any_place(dice, house)),
            ):
                text = WRITE[kind](thing)
                self.both(kind, thing, text)
                for _ in range(6):
                    met[kind, self.check(kind, bent_text(dice, text))] += 1
        self.assertGreater(min(met.values()), 60, met)

    def test_any_short_texts(self):
        dice = dice_of(131)
        for _ in range(6000):
            text = "".join(dice.choice("0012x+<>, ") for _ in range(dice.randint(0, 7)))
            for kind in READ:
                self.check(kind, text)


if __name__ == "__main__":
    unittest.main()
