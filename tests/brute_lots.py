"""Lots of small houses without flaps, all stands gone through step by step, and named word by word as [23] to [25]."""

from brute import HEAD, TAIL


def brute_lots(brute, length):
    """All lots, each a list of all its stands."""
    rope = (length, ())
    left = set(brute.stands(rope))
    lots = []
    while left:
        lot = set(brute.reach(rope, min(left)))
        left -= lot
        lots.append(sorted(lot))
    return lots


def arms_at(brute, length):
    """Of each place with two long arms or more the places next to it in these."""
    arms = {place: brute.long_arms(length, place) for place in brute.places}
    return {place: long for place, long in arms.items() if len(long) > 1}


def is_whole_in(brute, stand, end, place, beside):
    """Whether that end is at the place, and the rest in the arm by one next to it."""
    return stand[end] == place and beside in brute.bits(stand)


def is_whole_at_arms(brute, stand, arms):
    """Whether a stand is whole at a place with two long arms or more, in one of these."""
    return any(
        is_whole_in(brute, stand, end, place, beside)
        for end in (TAIL, HEAD) for place in arms for beside in arms[place]
    )


def run_names(brute, arms):
    """The two names of lots that run, each with (head, beside): the row's end, and x, next to it beyond the row."""
    beyond = [(place, beside) for place in sorted(arms) for beside in arms[place] if beside not in arms]
    (one, x), (other, y) = beyond
    return {("runs", x, y): (one, x), ("runs", y, x): (other, y)}


def core_of(brute, lot):
    """The places under the rope in all stands of a lot, from the tail's side on."""
    kept = [place for place in brute.row(*lot[0]) if all(place in brute.bits(stand) for stand in lot)]
    return ("core", kept[0], kept[-1])


def lot_name(brute, arms, lot):
    """The name of a lot, all of whose stands are handed in."""
    if not any(is_whole_at_arms(brute, stand, arms) for stand in lot):
        return core_of(brute, lot)
    if any(len(long) > 2 for long in arms.values()):
        return ("turns",)
    names = [
        name for name, (head, beside) in run_names(brute, arms).items()
        if any(is_whole_in(brute, stand, HEAD, head, beside) for stand in lot)
    ]
    (name,) = names
    return name


def named_lots(brute, length):
    """All lots by their names; no two of them have one."""
    arms = arms_at(brute, length)
    lots = brute_lots(brute, length)
    named = {lot_name(brute, arms, lot): lot for lot in lots}
    assert len(named) == len(lots)
    return named
