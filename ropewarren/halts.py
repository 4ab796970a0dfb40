"""Halts: the stands at which each end, going on from a stand, comes to a stop."""

from ropewarren.plans import Plan
from ropewarren.runs import runs_of


def halts(house, rope, stand, wish):
    """Tell all halts (end, tail, head, steps) of a stand, for a wish, rising."""
    rows = []
    for end, halt, steps, lead, trail in runs_of(Plan(house), rope, stand, wish):
        rows.append((end, halt[0], halt[1], steps))
    return tuple(sorted(rows))
