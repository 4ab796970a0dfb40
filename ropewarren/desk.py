"""A desk: a warren's deeds and questions as lines of text."""

from ropewarren.actions import action_of
from ropewarren.answers import answered
from ropewarren.signs import is_name, number_of
from ropewarren.texts import place_of
from ropewarren.wholes import HEAD, TAIL

NO_LINE = "no line"
# No number of a line has more figures, but those of places, which have fewer.
MOST = 20
# What stands behind each first word of a line.
KINDS = {
    "pull": ("end", "place"), "lead": ("place", "place"), "tie": ("number", "number"), "untie": ("number",),
    "trim": ("end", "number"), "narrow": ("number", "number", "number"), "clear": ("number", "number"),
    "hang": ("number", "number", "number"), "take": ("number", "number"), "lengthen": ("number", "number"),
    "grow": ("number", "number"), "halve": ("number", "number"), "back": (), "keep": ("name", "place", "place"),
    "drop": ("name",), "told": ("name",), "house": (), "rope": (), "stand": (), "steps": (), "names": (),
    "changed": (),
}


class Desk:
    """A warren to which lines are said."""

    def __init__(self, warren):
        self.held = warren

    def say(self, thing):
        """Do what a line says, and tell what comes of it; of anything."""
        words = thing.split(" ") if isinstance(thing, str) else [""]
        values = values_of(words)
        if values is None:
            return NO_LINE
        return answered(action_of(words[0]), self.held, values)


def values_of(words):
    """Tell what the words behind the first one stand for; None if these words are no line."""
    kinds = KINDS.get(words[0])
    if kinds is None or len(kinds) != len(words) - 1:
        return None
    values = [value_of(kind, word) for kind, word in zip(kinds, words[1:])]
    return None if None in values else values


def value_of(kind, word):
    """Tell what a word of a kind stands for; None if it is none of that kind."""
    if kind == "end":
        return end_of(word)
    if kind == "place":
        return place_of(word)
    if kind == "name":
        return word if is_name(word) else None
    return signed_of(word)


def end_of(word):
    """Tell the end of that name; None if there is none."""
    if word == "tail":
        return TAIL
    return HEAD if word == "head" else None


def signed_of(word):
    """Tell the number that a word is, perhaps one below 0; None if it is none."""
    if not word.startswith("-"):
        return number_of(word, MOST)
    number = number_of(word[1:], MOST)
    return None if number is None or number == 0 else -number
