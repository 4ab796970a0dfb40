"""Small houses with ropes and stands, to be gone through step by step."""

from brute import Brute
from samples import dice_of, knots_for, small_house


def small_stands(seed, many, starts=3, longest_rope=5, knots=3, **kinds):
    """Any small houses with a rope each: (dice, house, brute, rope, start, stands)."""
    dice = dice_of(seed)
    for _ in range(many):
        house = small_house(dice, **{"rooms": (2, 6), "narrows": 3, "flaps": 3, **kinds})
        brute = Brute(house)
        length = dice.randint(1, longest_rope)
        rope = (length, knots_for(dice, length, knots))
        stands = brute.stands(rope)
        for start in dice.sample(stands, min(starts, len(stands))):
            yield dice, house, brute, rope, start, stands
