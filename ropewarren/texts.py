"""Texts of places, stands, ropes and houses, written and read back."""

from ropewarren.errors import NoText
from ropewarren.houses import is_house
from ropewarren.ropes import is_rope
from ropewarren.signs import number_of

# No number of a place, a rope or a house has more figures.
MOST = 15
# The signs of a flap's ways.
FORTH = ">"
BACK = "<"


def place_text(place):
    """Tell the text of a place: a room's number, or the pipe's and at."""
    return "+".join([str(number) for number in place])


def stand_text(stand):
    """Tell the text of a stand: tail and head."""
    return " ".join([place_text(place) for place in stand])


def rope_text(rope):
    """Tell the text of a rope: its length, and its knots."""
    length, knots = rope
    return " ".join([str(length)] + pair_texts(knots))


def pair_texts(pairs):
    """Tell the texts of knots or narrow places."""
    return [f"{where}x{size}" for where, size in pairs]


def house_text(house):
    """Tell the text of a house: its rooms, and its pipes."""
    rooms, pipes = house
    return ", ".join([str(rooms)] + [pipe_text(pipe) for pipe in pipes])


def pipe_text(pipe):
    """Tell the text of a pipe: its rooms, its length, its narrow places, its flaps."""
    numbers = [str(number) for number in pipe[:3]]
    flaps = [f"{at}{FORTH if way == 1 else BACK}" for at, way in pipe[4]]
    return " ".join(numbers + pair_texts(pipe[3]) + flaps)


def read_place(thing):
    """Tell the place of which anything is the text."""
    place = place_of(thing)
    if place is None:
        raise NoText()
    return place


def place_of(thing):
    """Tell the place of any house of which anything is the text; None if it is none."""
    if not isinstance(thing, str):
        return None
    first, plus, second = thing.partition("+")
    number = number_of(first, MOST)
    if number is None:
        return None
    if plus == "":
        return (number,)
    at = number_of(second, MOST)
    return None if at is None or at == 0 else (number, at)


def read_stand(thing):
    """Tell the two places of which anything is the text."""
    places = [place_of(word) for word in words_of(thing)]
    if len(places) != 2 or None in places:
        raise NoText()
    return tuple(places)


def words_of(thing):
    """Tell the words, with one blank between, of anything that is a text; of others none."""
    return thing.split(" ") if isinstance(thing, str) else []


def read_rope(thing):
    """Tell the rope of which anything is the text."""
    words = words_of(thing)
    if not words:
        raise NoText()
    rope = (number_of(words[0], MOST), tuple([pair_of(word) for word in words[1:]]))
    if not is_rope(rope):
        raise NoText()
    return rope


def pair_of(word):
    """Tell the pair of numbers of which a word is the text; None if it is none."""
    first, cross, second = word.partition("x")
    pair = (number_of(first, MOST), number_of(second, MOST))
    return None if None in pair else pair


def read_house(thing):
    """Tell the house of which anything is the text."""
    parts = thing.split(", ") if isinstance(thing, str) else [""]
    house = (number_of(parts[0], MOST), tuple([pipe_of(part) for part in parts[1:]]))
    # Narrow places and flaps are told apart by their signs alone, so those in another order are found here.
    if not is_house(house) or house_text(house) != thing:
        raise NoText()
    return house


def pipe_of(text):
    """Tell the pipe of which a text is the text, whatever order narrow places and flaps have; None if it is none."""
    words = text.split(" ")
    if len(words) < 3:
        return None
    one, other, length = [number_of(word, MOST) for word in words[:3]]
    narrows = [pair_of(word) for word in words[3:] if "x" in word]
    flaps = [flap_of(word) for word in words[3:] if "x" not in word]
    return (one, other, length, tuple(narrows), tuple(flaps))


def flap_of(word):
    """Tell the flap of which a word is the text; None if it is none."""
    at = number_of(word[:-1], MOST)
    if at is None or word[-1] not in FORTH + BACK:
        return None
    return (at, 1 if word[-1] == FORTH else -1)
