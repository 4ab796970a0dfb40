"""[39] a desk."""

import re
import unittest

from acts import DEEDS as WORDS
from acts import any_things, tried
from brute import Brute
from near import small_stands
from ropewarren.desk import Desk
from ropewarren.texts import house_text, place_text, rope_text, stand_text
from ropewarren.warrens import Warren
from samples import LONG, OTHERS, dice_of, path, pipe, star

HOUSE = (4, (pipe(0, 1, 12, ((3, 1),), ((5, 1),)), pipe(0, 2, 9), pipe(0, 3, 7)))
ROPE = (4, ((0, 2), (3, 1)))
STAND = ((1, 7), (1, 3))
NUMBER = r"(?:0|-?[1-9][0-9]{0,19})"
PLACE = r"(?:0|[1-9][0-9]{0,14})(?:\+[1-9][0-9]{0,14})?"
NAME = r"[a-z]{1,8}"
END = r"(?:tail|head)"
LINES = tuple(re.compile(form, re.ASCII) for form in (
    f"pull {END} {PLACE}", f"lead {PLACE} {PLACE}", f"tie {NUMBER} {NUMBER}", f"untie {NUMBER}", f"trim {END} {NUMBER}",
    f"narrow {NUMBER} {NUMBER} {NUMBER}", f"clear {NUMBER} {NUMBER}", f"hang {NUMBER} {NUMBER} {NUMBER}",
    f"take {NUMBER} {NUMBER}", f"lengthen {NUMBER} {NUMBER}", f"grow {NUMBER} {NUMBER}", f"halve {NUMBER} {NUMBER}", "back",
    f"keep {NAME} {PLACE} {PLACE}", f"drop {NAME}", f"told {NAME}", "house", "rope", "stand", "steps", "names", "changed",
))


def is_line(thing):
    return type(thing) is str and any(form.fullmatch(thing) for form in LINES)


def place_in(text):
    return tuple(int(word) for word in text.split("+"))


def all_of(warren):
    return (
        warren.house(), warren.rope(), warren.stand(), warren.steps(), warren.deeds(), warren.names(), warren.changed(),
    )


def by_calls(warren, line):
    """What a desk is to answer to a line, done on a warren by calls."""
    word, *words = line.split(" ")
    if word in ("house", "rope", "stand"):
        return {"house": house_text, "rope": rope_text, "stand": stand_text}[word](getattr(warren, word)())
    if word == "steps":
        return str(warren.steps())
    if word in ("names", "changed"):
        return " ".join(getattr(warren, word)()) or "-"
    if word in ("lead", "keep"):
        things = (*words[:-2], (place_in(words[-2]), place_in(words[-1])))
    elif word in ("drop", "told"):
        things = tuple(words)
    elif word == "pull":
        things = (("tail", "head").index(words[0]), place_in(words[1]))
    elif word == "trim":
        things = (("tail", "head").index(words[0]), int(words[1]))
    else:
        things = tuple(int(number) for number in words)
    told = tried(getattr(warren, word), *things)
    if told[0] != "done":
        return f"no {told[0]}"
    if word in ("keep", "drop"):
        return "done"
    if word == "told":
        return f"way {told[1][1]}" if told[1][0] == "way" else "bar"
    return f"done {told[1]}"


class ByHand(unittest.TestCase):

    def setUp(self):
        self.warren = Warren(HOUSE, ROPE, STAND)
        self.desk = Desk(self.warren)

    def says(self, *rows):
        for line, answer in rows:
            self.assertEqual(self.desk.say(line), answer, line)

    def test_questions(self):
        self.says(
            ("house", "4, 0 1 12 3x1 5>, 0 2 9, 0 3 7"), ("rope", "4 0x2 3x1"), ("stand", "1+7 1+3"), ("steps", "0"),
            ("names", "-"), ("changed", "-"),
        )
        self.assertEqual(len(self.warren), 0)

    def test_deeds(self):
        self.says(
            ("pull head 2+2", "done 1"), ("stand", "1+2 2+2"), ("steps", "5"), ("pull tail 1+8", "done 2"),
            ("lead 2+5 2+1", "done 3"), ("stand", "2+5 2+1"), ("tie 1 4", "done 4"), ("rope", "4 0x2 1x4 3x1"),
            ("untie 0", "done 5"), ("trim head 1", "done 6"), ("trim tail 2", "done 7"), ("rope", "1 0x4"),
            ("stand", "2+3 2+2"), ("narrow 1 2 3", "done 8"), ("clear 1 2", "done 9"), ("hang 1 0 -1", "done 10"),
            ("hang 1 8 1", "done 11"), ("house", "4, 0 1 12 3x1 5>, 0 2 9 0< 8>, 0 3 7"), ("take 1 0", "done 12"),
            ("lengthen 1 2", "done 13"), ("grow 3 20", "done 14"), ("halve 2 2", "done 15"), ("stand", "4+4 5"),
            ("house", "6, 0 1 12 3x1 5>, 0 2 11 8>, 0 5 2, 3 4 20, 3 5 5"), ("back", "done 14"), ("back", "done 13"),
            ("stand", "2+3 2+2"),
        )
        self.assertEqual(len(self.warren), 13)
        for number in range(12, -1, -1):
            self.says(("back", f"done {number}"))
        self.says(("back", "no NoBack"), ("house", house_text(HOUSE)), ("stand", "1+7 1+3"), ("steps", "0"))

    def test_wishes(self):
        self.says(
            ("keep a 1+8 1+4", "done"), ("keep far 0+12 0+8", "no NoStand"), ("keep far 2+5 2+1", "done"),
            ("names", "a far"), ("told a", "way 1"), ("hang 2 0 -1", "done 1"), ("changed", "far"), ("told far", "bar"),
            ("changed", "-"), ("back", "done 0"), ("changed", "far"), ("keep a 1 1", "no Twice"), ("keep b 1 1", "no NoStand"),
            ("drop b", "no NoName"), ("told b", "no NoName"), ("trim head 1", "done 1"), ("changed", "a far"),
            ("told a", "no NoStand"), ("drop a", "done"), ("names", "far"), ("drop far", "done"), ("names", "-"),
            ("back", "done 0"),
        )
        for name in "abcdefghij":
            self.says((f"keep {name} 1+7 1+3", "done"))
        self.says(("keep k 1+7 1+3", "no Full"), ("names", "a b c d e f g h i j"))

    def test_refused(self):
        self.says(
            ("pull head 9", "no NoPlace"), ("pull tail 1+3", "no Back"), ("hang 1 1 1", "done 1"), ("pull head 0", "no Shut"),
            ("take 1 1", "done 2"), ("narrow 1 1 1", "done 3"), ("pull head 0", "no Stuck"), ("lead 0 0", "no NoStand"),
            ("lead 0+11 0+7", "no Barred"), ("tie 9 1", "no NoBit"), ("tie -1 1", "no NoBit"), ("tie 1 0", "no NoSize"),
            ("tie 0 1", "no Twice"), ("narrow 1 6 1", "done 4"), ("tie 1 9", "done 5"), ("narrow 1 4 8", "no Tight"),
            ("untie 3", "no NoKnot"), ("trim tail 4", "no NoBy"), ("trim head -1", "no NoBy"), ("narrow 3 1 1", "no NoPipe"),
            ("narrow 0 0 1", "no NoAt"), ("narrow 0 1 -5", "no NoSize"), ("clear 0 1", "no NoNarrow"),
            ("hang 0 1 0", "no NoWay"), ("take 0 4", "no NoFlap"), ("lengthen 1 1", "no Under"), ("lengthen 0 0", "no NoBy"),
            ("grow 4 1", "no NoRoom"), ("grow 0 0", "no NoBy"), ("halve 0 12", "no NoAt"), ("halve 9 1", "no NoPipe"),
            ("tie 2 1", "done 6"), ("tie 4 1", "no Full"),
        )
        for number in range(7, 201):
            self.says((f"narrow 0 1 {number}", f"done {number}"))
        self.says(("narrow 0 1 1", "no TooMany"), ("halve 99 99", "no TooMany"), ("back", "done 199"))

    def no_line(self, *lines):
        before = all_of(self.warren)
        for line in lines:
            self.assertEqual(self.desk.say(line), "no line", line)
        self.assertEqual(all_of(self.warren), before)

    def test_no_lines(self):
        self.no_line(
            "", " ", "pull", "pull head", "pull head 0 ", " pull head 0", "pull  head 0", "pull head  0", "pull head 0 0",
            "Pull head 0", "PULL head 0", "pull Head 0", "pull 1 0", "pull front 0", "pull head 00", "pull head 1+0",
            "pull head -1", "pull head 0\n", "\npull head 0", "pull\thead 0", "pull head\n0", "back ", " back", "back 1",
            "back\n", "lead 0", "lead 0 0 0", "lead", "tie 1", "tie 1 1 1", "tie 1 a", "tie +1 1", "tie 1 1.0", "tie 01 1",
            "tie -0 1", "tie -01 1", "tie - 1", "tie --1 1", "tie 1 1_0", "untie", "untie 0 0", "untie x", "untie -0",
            "trim head", "trim 1 1", "trim head head", "narrow 1 1", "hang 1 1 >", "house 1", "House", "houses", "hous",
            "keep a", "keep a 0", "keep A 0 0", "keep abcdefghi 0 0", "keep a1 0 0", "keep  0 0", "drop", "drop A", "told",
            "told a b", "told abcdefghi", "names a", "changed ", "line", "no line", "told \u00e9", "tie \u0661 1", "done", "quit",
        )

    def test_other_things(self):
        self.no_line(*(thing for thing in OTHERS if thing != "house"), ("back",), ["back"], b"back", {"back": 1}, 1.5)

    def test_long_numbers(self):
        self.says(
            ("tie " + "9" * 20 + " 1", "no NoBit"), ("tie -" + "9" * 20 + " 1", "no NoBit"),
            ("untie 1" + "0" * 19, "no NoKnot"), ("pull head " + "9" * 15, "no NoPlace"),
            ("pull head 1+" + "9" * 15, "no NoPlace"), ("lead 0 " + "9" * 15, "no NoStand"),
            ("hang 0 0 -" + "9" * 20, "no NoWay"),
        )
        self.no_line(
            "tie " + "9" * 21 + " 1", "tie -" + "9" * 21 + " 1", "tie 1" + "0" * 20 + " 1", "untie " + "0" * 20,
            "pull head " + "9" * 16, "pull head 1+" + "9" * 16, "lead 0 " + "9" * 16, "tie 0" + "9" * 19 + " 1",
            "tie " + "9" * 3900 + " 1",
        )

    def test_names(self):
        self.says(("keep abcdefgh 1+7 1+3", "done"), ("told abcdefgh", "way 0"), ("names", "abcdefgh"))
        self.no_line("keep abcdefghi 1+7 1+3", "told abcdefghi", "drop abcdefghi")

    def test_far(self):
        warren = Warren(path(2, LONG), (9, ()), ((0,), (0, 9)))
        desk = Desk(warren)
        self.assertEqual(desk.say("pull head 1"), "done 1")
        self.assertEqual(desk.say("steps"), str(LONG - 9))
        self.assertEqual(desk.say("stand"), f"0+{LONG - 9} 1")

    def test_two_desks_at_one_warren(self):
        other = Desk(self.warren)
        self.says(("pull head 0", "done 1"))
        self.assertEqual(other.say("stand"), self.desk.say("stand"))
        self.assertEqual(other.say("back"), "done 0")


def line_of(dice, warren, names):
    """Any line, often of a deed that can be done."""
    house, rope = warren.house(), warren.rope()
    choice = dice.random()
    stands = Brute(house).stands(rope)
    if choice < 0.2:
        return dice.choice(("house", "rope", "stand", "steps", "names", "changed", "back", "back"))
    if choice < 0.3:
        return f"keep {dice.choice(names)} " + stand_text(dice.choice(stands))
    if choice < 0.4:
        return dice.choice(("drop", "told", "told")) + " " + dice.choice(names)
    word = dice.choice(WORDS)
    things = any_things(dice, word, house, rope, stands)
    if word == "lead":
        return "lead " + " ".join(str(thing) for thing in things) if type(things[0]) is not tuple else (
            "lead " + stand_text(dice.choice(stands)))
    words = []
    for at, thing in enumerate(things):
        if word in ("pull", "trim") and at == 0:
            words.append(("tail", "head")[thing] if thing in (0, 1) and type(thing) is int else str(thing))
        elif type(thing) is tuple and thing and all(type(part) is int for part in thing):
            words.append(place_text(thing))
        else:
            words.append(str(thing))
    return " ".join([word, *words])


class Small(unittest.TestCase):

    def test_beside_a_second_warren(self):
        met = {}
        for dice, house, brute, rope, start, stands in small_stands(140, 100, starts=1, longest=5, rooms=(2, 5), flaps=2):
            one, other = Warren(house, rope, start), Warren(house, rope, start)
            desk = Desk(one)
            for _ in range(40):
                line = line_of(dice, one, ("a", "b", "c", "abcdefgh"))
                if dice.random() < 0.15:
                    at = dice.randrange(len(line) + 1)
                    line = line[:at] + dice.choice((" ", "0", "-", "+", "x", "\n", "")) + line[at + dice.choice((0, 1)):]
                told = desk.say(line)
                self.assertIs(type(told), str)
                self.assertEqual(told, by_calls(other, line) if is_line(line) else "no line", line)
                self.assertEqual(all_of(one), all_of(other))
                self.assertTrue(one == other)
                key = told if told[:3] == "no " else line.split(" ")[0]
                met[key] = met.get(key, 0) + 1
        for key in (
            "pull", "lead", "tie", "untie", "trim", "narrow", "clear", "hang", "take", "lengthen", "grow", "halve", "back",
            "keep", "drop", "told", "house", "rope", "stand", "steps", "names", "changed", "no line", "no Shut", "no Back",
            "no Barred", "no NoStand", "no NoName", "no Twice", "no NoBy", "no NoAt", "no Under", "no NoBack",
        ):
            self.assertGreater(met.get(key, 0), 1, (key, met))

    def test_in_a_star(self):
        warren = Warren(star(4, 5), (3, ()), ((0, 3), (0,)))
        desk = Desk(warren)
        dice = dice_of(141)
        for _ in range(150):
            line = line_of(dice, warren, ("a", "b"))
            self.assertEqual(desk.say(line) == "no line", not is_line(line), line)


if __name__ == "__main__":
    unittest.main()
