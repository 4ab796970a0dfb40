"""Places next to one another, and the one row between two places."""

from ropewarren.plans import Plan, gap_of, is_on_row, place_between, places_beside


def distance_of(house, one, other):
    """Tell how many steps the row from one place to another has."""
    return gap_of(Plan(house), one, other)


def place_on(house, one, other, steps):
    """Tell the place that stands so many steps from one place on the row to another."""
    return place_between(Plan(house), one, other, steps)


def next_to(house, place):
    """Tell all places next to one, rising."""
    return places_beside(Plan(house), place)


def is_between(house, one, other, place):
    """Tell whether a place lies on the row between two places, their ends counted in."""
    return is_on_row(Plan(house), one, other, place)
