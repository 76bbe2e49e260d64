"""[13] and [14] told over again with Python's own fractions. Nothing here uses the program."""

from fractions import Fraction

from plain import corners_of, cross, dot, less


def mixed(flake, shares):
    """The point with so much of each corner; the shares come to one."""
    return tuple(sum(share * corner[k] for share, corner in zip(shares, flake)) for k in range(3))


def side_foot(one, other, point):
    side = less(other, one)
    share = Fraction(dot(side, less(point, one))) / dot(side, side)
    share = min(max(share, 0), 1)
    return mixed((one, other), (1 - share, share))


def plane_feet(flake, point):
    """The point of the plane below, if it is of the flake: as a list of one or none."""
    a, b, c = flake
    normal = cross(less(b, a), less(c, a))
    off = Fraction(dot(normal, less(point, a))) / dot(normal, normal)
    foot = tuple(Fraction(x) - off * n for x, n in zip(point, normal))
    turns = [cross(less(other, one), less(foot, one)) for one, other in [(a, b), (b, c), (c, a)]]
    return [foot] if all(dot(turn, normal) >= 0 for turn in turns) else []


def foot(flake, point):
    a, b, c = flake
    feet = plane_feet(flake, point) + [side_foot(*side, point) for side in [(a, b), (b, c), (c, a)]]
    return min(feet, key=lambda found: dot(less(found, point), less(found, point)))


def square(flake, point):
    gap = less(foot(flake, point), point)
    return Fraction(dot(gap, gap))


def pair(fraction):
    fraction = Fraction(fraction)
    return (fraction.numerator, fraction.denominator)


def flake(skin, triangle):
    return tuple(skin[0][k] for k in triangle[:3])


def least_square(skin, point):
    return min(square(flake(skin, triangle), point) for triangle in skin[1])


def nearest(skin, vector):
    """The least of the triangles that are nearest, by sorting them all."""
    found = sorted((square(flake(skin, triangle), vector), triangle) for triangle in skin[1])
    triangle = found[0][1]
    return (pair(found[0][0]), triangle, tuple(pair(x) for x in foot(flake(skin, triangle), vector)))


def farthest(one, other):
    found = sorted((-least_square(other, one[0][corner]), corner) for corner in corners_of(one))
    return (pair(-found[0][0]), found[0][1])


def middle(one, other):
    return tuple(Fraction(x + y, 2) for x, y in zip(one, other))


def pieces(flakes, halvings):
    if halvings == 0:
        return flakes
    parted = []
    for a, b, c in pieces(flakes, halvings - 1):
        ab, bc, ca = middle(a, b), middle(b, c), middle(c, a)
        parted += [(a, ab, ca), (b, bc, ab), (c, ca, bc), (ab, bc, ca)]
    return parted


def bounds(one, other, halvings):
    parted = pieces([flake(one, triangle) for triangle in one[1]], halvings)
    flakes = [flake(other, triangle) for triangle in other[1]]
    known = {}
    for corner in {corner for piece in parted for corner in piece}:
        known[corner] = [square(there, corner) for there in flakes]
    low = max(min(known[corner]) for piece in parted for corner in piece)
    high = max(min(max(trio) for trio in zip(*[known[corner] for corner in piece])) for piece in parted)
    return (pair(low), pair(high))
