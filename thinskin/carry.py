"""Points of a skin carried along with its steps, and brought back."""

from thinskin.drawing import moved_star
from thinskin.drawing import skin_ahead
from thinskin.drawing import skin_behind
from thinskin.foot import point_by
from thinskin.fronts import check_closed
from thinskin.fronts import mixed_skin
from thinskin.kinds import is_alike
from thinskin.kinds import is_number
from thinskin.skins import flake_at
from thinskin.space import common_divisor


def divisor_of(shares):
    """The greatest number that divides all shares, 0 where all are nought."""
    divisor = 0
    for share in shares:
        divisor = common_divisor(divisor, share)
    return divisor


def weights_of(spot):
    """A dict with, for each corner whose share is not nought, that share."""
    triangle, shares = spot
    return {corner: share for corner, share in zip(triangle[:3], shares) if share != 0}


def spot_by(skin, weights):
    """The spot of the least triangle of the skin that has all corners of the weights."""
    held = [triangle for triangle in skin[1] if all([corner in triangle[:3] for corner in weights])]
    triangle = held[0]
    shares = [weights.get(corner, 0) for corner in triangle[:3]]
    divisor = divisor_of(shares)
    return (triangle, tuple([share // divisor for share in shares]))


def least_spot(skin, spot):
    """The spot of the same weights in the least triangle that has all their corners."""
    return spot_by(skin, weights_of(spot))


def are_shares(thing):
    """Whether anything is a tuple of three numbers from 0 on, without a common divisor above 1."""
    if not isinstance(thing, tuple) or len(thing) != 3:
        return False
    return all([is_number(part) and part >= 0 for part in thing]) and divisor_of(thing) == 1


def is_spot(skin, thing):
    """Whether anything is a spot of the skin."""
    if not isinstance(thing, tuple) or len(thing) != 2:
        return False
    triangle, shares = thing
    return are_shares(shares) and any([is_alike(own, triangle) for own in skin[1]])


def place_of(skin, spot):
    """Where the spot is, a tuple of three fractions."""
    triangle, shares = spot
    return point_by(flake_at(skin[0], triangle), shares)


def carried_on(skin, step, spot):
    """The least spot of the skin behind the step to which a spot of the skin is carried."""
    b, a = step[:2]
    weights = weights_of(spot)
    if b in weights:
        share = weights.pop(b)
        weights[a] = weights.get(a, 0) + share
    return spot_by(skin_behind(skin, step), weights)


def brought_back(skin, step, spot):
    """A spot of the skin ahead of the step that is carried onto this one of the skin behind."""
    b, a, star = step
    least = least_spot(skin, spot)
    weights = weights_of(least)
    if a in weights and least[0] in moved_star(star, b, a):
        weights[b] = weights.pop(a)
    return spot_by(skin_ahead(skin, step), weights)


def carried_all(first, steps, choice, spot):
    """The spot carried on by all steps of a choice, in their order; or NotClosed."""
    check_closed(steps, choice)
    skin = first
    carried = least_spot(first, spot)
    for number in choice:
        carried = carried_on(skin, steps[number], carried)
        skin = skin_behind(skin, steps[number])
    return carried


def brought_all(first, steps, choice, spot):
    """The spot brought back by all steps of a choice, the last one first; or NotClosed."""
    skin = mixed_skin(first, steps, choice)
    brought = least_spot(skin, spot)
    for number in reversed(choice):
        brought = brought_back(skin, steps[number], brought)
        skin = skin_ahead(skin, steps[number])
    return brought
