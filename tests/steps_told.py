"""What distance tells, as a number or None."""

from ropewarren.errors import Barred
from ropewarren.verdicts import distance


def fewest(house, rope, start, wish):
    """The fewest steps, None where it is refused."""
    try:
        return distance(house, rope, start, wish)
    except Barred as refusal:
        assert type(refusal) is Barred
        return None
