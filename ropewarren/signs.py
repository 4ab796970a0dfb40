"""Signs that texts are made of: numbers in figures, and names in letters."""

FIGURES = "0123456789"
LETTERS = "abcdefghijklmnopqrstuvwxyz"
NAME = 8


def number_of(text, most):
    """Tell the number that a text is in at most so many figures, without needless noughts; None if it is none."""
    if not 1 <= len(text) <= most or not all([sign in FIGURES for sign in text]):
        return None
    if text[0] == "0" and len(text) > 1:
        return None
    return int(text)


def is_name(thing):
    """Tell whether anything is a text of 1 to 8 letters a to z."""
    return isinstance(thing, str) and 1 <= len(thing) <= NAME and all([sign in LETTERS for sign in thing])
