"""[21] told over again, plainly and slowly. Nothing here uses the program."""

import math
from fractions import Fraction

import plain
from plain_far import pair


def is_spot(skin, thing):
    if type(thing) is not tuple or len(thing) != 2:
        return False
    triangle, shares = thing
    if repr(triangle) not in [repr(own) for own in skin[1]]:
        return False
    if type(shares) is not tuple or len(shares) != 3 or not all(type(share) is int for share in shares):
        return False
    return min(shares) >= 0 and max(shares) > 0 and math.gcd(*shares) == 1


def weights(spot):
    triangle, shares = spot
    return {triangle[k]: shares[k] for k in range(3) if shares[k]}


def spot_of(skin, weights_):
    triangle = min(triangle for triangle in skin[1] if set(weights_) <= set(triangle[:3]))
    by = math.gcd(*weights_.values())
    return (triangle, tuple(weights_.get(corner, 0) // by for corner in triangle[:3]))


def least(skin, spot):
    return spot_of(skin, weights(spot))


def place(skin, spot):
    """As fractions of Python's own."""
    triangle, shares = spot
    places = [skin[0][corner] for corner in triangle[:3]]
    return tuple(sum(Fraction(share * there[k], sum(shares)) for share, there in zip(shares, places)) for k in range(3))


def place_pairs(skin, spot):
    return tuple(pair(x) for x in place(skin, spot))


def carried(skin, step, spot):
    b, a, star = step
    moved = {}
    for corner, share in weights(spot).items():
        corner = a if corner == b else corner
        moved[corner] = moved.get(corner, 0) + share
    return spot_of(plain.drawn(skin, b, a), moved)


def brought(ahead, behind, step, spot):
    """Of the skins ahead of the step and behind it, both known."""
    b, a, star = step
    triangle, shares = least(behind, spot)
    share_of = dict(zip(triangle[:3], shares))
    for own in star:
        if a not in own[:3] and plain.drawn((ahead[0], (own,)), b, a)[1] == (triangle,):
            corners = [a if corner == b else corner for corner in own[:3]]
            return least(ahead, (own, tuple(share_of[corner] for corner in corners)))
    return least(ahead, (triangle, shares))


def skins_along(first, steps, choice):
    skins = [first]
    for number in choice:
        skins.append(plain.drawn(skins[-1], *steps[number][:2]))
    return skins


def carried_all(first, steps, choice, spot):
    skins = skins_along(first, steps, choice)
    spot = least(first, spot)
    for skin, number in zip(skins, choice):
        spot = carried(skin, steps[number], spot)
    return spot


def brought_all(first, steps, choice, spot):
    skins = skins_along(first, steps, choice)
    spot = least(skins[-1], spot)
    for at in reversed(range(len(choice))):
        spot = brought(skins[at], skins[at + 1], steps[choice[at]], spot)
    return spot
