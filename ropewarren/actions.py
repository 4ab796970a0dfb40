"""What a desk does with a warren, each action for one first word of its lines."""

from ropewarren.texts import house_text, rope_text, stand_text
from ropewarren.verdicts import WAY


def done(number):
    """Tell that a deed is done, with the number that the warren told."""
    return f"done {number}"


def do_pull(warren, end, place):
    """Pull an end on to a place."""
    return done(warren.pull(end, place))


def do_lead(warren, tail, head):
    """Lead the rope to a stand."""
    return done(warren.lead((tail, head)))


def do_tie(warren, behind, size):
    """Tie a knot."""
    return done(warren.tie(behind, size))


def do_untie(warren, knot):
    """Untie a knot."""
    return done(warren.untie(knot))


def do_trim(warren, end, by):
    """Trim the rope."""
    return done(warren.trim(end, by))


def do_narrow(warren, pipe, at, width):
    """Make a place narrow."""
    return done(warren.narrow(pipe, at, width))


def do_clear(warren, pipe, at):
    """Clear a narrow place."""
    return done(warren.clear(pipe, at))


def do_hang(warren, pipe, at, way):
    """Hang a flap."""
    return done(warren.hang(pipe, at, way))


def do_take(warren, pipe, at):
    """Take a flap away."""
    return done(warren.take(pipe, at))


def do_lengthen(warren, pipe, by):
    """Lengthen a pipe."""
    return done(warren.lengthen(pipe, by))


def do_grow(warren, room, length):
    """Let a room grow."""
    return done(warren.grow(room, length))


def do_halve(warren, pipe, at):
    """Halve a pipe."""
    return done(warren.halve(pipe, at))


def do_back(warren):
    """Take the last deed back."""
    return done(warren.back())


def do_keep(warren, name, tail, head):
    """Keep a wish."""
    warren.keep(name, (tail, head))
    return "done"


def do_drop(warren, name):
    """Drop a wish."""
    warren.drop(name)
    return "done"


def tell_told(warren, name):
    """Tell the word of a wish, of a way with its steps."""
    word, shown = warren.told(name)
    return f"{word} {shown}" if word == WAY else word


def tell_house(warren):
    """Tell the house."""
    return house_text(warren.house())


def tell_rope(warren):
    """Tell the rope."""
    return rope_text(warren.rope())


def tell_stand(warren):
    """Tell the stand."""
    return stand_text(warren.stand())


def tell_steps(warren):
    """Tell the steps."""
    return str(warren.steps())


def tell_names(warren):
    """Tell the names of all wishes."""
    return names_text(warren.names())


def tell_changed(warren):
    """Tell the names of the wishes that are changed."""
    return names_text(warren.changed())


def names_text(names):
    """Tell names with blanks between, a dash for none."""
    return " ".join(names) if names else "-"


ACTIONS = {
    "pull": do_pull, "lead": do_lead, "tie": do_tie, "untie": do_untie, "trim": do_trim, "narrow": do_narrow,
    "clear": do_clear, "hang": do_hang, "take": do_take, "lengthen": do_lengthen, "grow": do_grow, "halve": do_halve,
    "back": do_back, "keep": do_keep, "drop": do_drop, "told": tell_told, "house": tell_house, "rope": tell_rope,
    "stand": tell_stand, "steps": tell_steps, "names": tell_names, "changed": tell_changed,
}


def action_of(word):
    """Tell the action for a first word."""
    return ACTIONS[word]
