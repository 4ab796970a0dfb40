"""Small houses with ropes and stands, to be gone through step by step."""

from brute import HEAD, TAIL, Brute
from samples import dice_of, knots_for, small_house


def small_stands(seed, many, starts=3, longest_rope=5, knots=3, **kinds):
    """Any small houses with a rope each: (dice, house, brute, rope, start, stands)."""
    dice = dice_of(seed)
    for _ in range(many):
        house = small_house(dice, **{"rooms": (2, 6), "narrows": 3, "flaps": 3, **kinds})
        brute = Brute(house)
        length = dice.randint(1, longest_rope)
        rope = (length, knots_for(dice, length, knots))
        stands = brute.stands(rope)
        for start in dice.sample(stands, min(starts, len(stands))):
            yield dice, house, brute, rope, start, stands


def legs_from(brute, rope, stand):
    """All (leg, stand behind it) that can be done from a stand."""
    rows = []
    for end in (TAIL, HEAD):
        for place in brute.places:
            told = brute.leg(rope, stand, end, place)
            if told[0] == "stand":
                rows.append(((end, place), told[1]))
    return rows


def any_way(dice, brute, rope, stand, most=5):
    """Any legs from a stand, one behind another, and the stand they lead to."""
    legs = []
    for _ in range(dice.randint(0, most)):
        rows = legs_from(brute, rope, stand)
        if not rows:
            break
        leg, stand = dice.choice(rows)
        legs.append(leg)
    return tuple(legs), stand
