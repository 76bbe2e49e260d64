"""The point of a flake that is nearest to a vector, exactly.

A point of the flake is handled by its shares: how much of each corner it has.
"""

from thinskin.kinds import is_alike
from thinskin.space import compare_two
from thinskin.space import dot_of
from thinskin.space import fraction_of
from thinskin.space import less_by


def plane_shares(flake, vector):
    """Shares of the point of the flake's plane below the vector, some maybe below 0."""
    a, b, c = flake
    to_b = less_by(b, a)
    to_c = less_by(c, a)
    way = less_by(vector, a)
    b_b = dot_of(to_b, to_b)
    b_c = dot_of(to_b, to_c)
    c_c = dot_of(to_c, to_c)
    b_way = dot_of(to_b, way)
    c_way = dot_of(to_c, way)
    share_b = c_c * b_way - b_c * c_way
    share_c = b_b * c_way - b_c * b_way
    whole = b_b * c_c - b_c * b_c
    return (whole - share_b - share_c, share_b, share_c)


def side_shares(flake, apart, vector):
    """Shares of the nearest point of the side that has not the corner apart."""
    one = (apart + 1) % 3
    other = (apart + 2) % 3
    side = less_by(flake[other], flake[one])
    whole = dot_of(side, side)
    along = dot_of(side, less_by(vector, flake[one]))
    share = min(max(along, 0), whole)
    shares = [0, 0, 0]
    shares[one] = whole - share
    shares[other] = share
    return tuple(shares)


def point_at(flake, shares):
    """A pair: the vector, and the number by which to divide it to get the point."""
    a, b, c = flake
    of_a, of_b, of_c = shares
    x = of_a * a[0] + of_b * b[0] + of_c * c[0]
    y = of_a * a[1] + of_b * b[1] + of_c * c[1]
    z = of_a * a[2] + of_b * b[2] + of_c * c[2]
    return ((x, y, z), of_a + of_b + of_c)


def square_at(flake, shares, vector):
    """The square of how far the point is from the vector, not in lowest terms."""
    (x, y, z), whole = point_at(flake, shares)
    gap = less_by((x, y, z), (whole * vector[0], whole * vector[1], whole * vector[2]))
    return (dot_of(gap, gap), whole * whole)


def foot_shares(flake, vector):
    """Shares of the point of the flake that is nearest to the vector."""
    shares = plane_shares(flake, vector)
    # The nearest point is on a side beyond which the vector lies: a share below 0
    # says that it lies beyond the side across from that corner. One share at least
    # is above 0, so there are two such sides at most.
    sides = [side_shares(flake, k, vector) for k in range(3) if shares[k] < 0]
    if not sides:
        return shares
    nearest = sides[0]
    for side in sides[1:]:
        if compare_two(square_at(flake, side, vector), square_at(flake, nearest, vector)) < 0:
            nearest = side
    return nearest


def point_by(flake, shares):
    """The point with these shares, a tuple of three fractions."""
    (x, y, z), whole = point_at(flake, shares)
    return (fraction_of(x, whole), fraction_of(y, whole), fraction_of(z, whole))


def foot_on(flake, vector):
    """The nearest point of the flake, a tuple of three fractions."""
    return point_by(flake, foot_shares(flake, vector))


def square_from(flake, vector):
    """The square of how far the flake is from the vector, not in lowest terms."""
    return square_at(flake, foot_shares(flake, vector), vector)


def square_to(flake, vector):
    """The square of how far the flake is from the vector, a fraction."""
    n, d = square_from(flake, vector)
    return fraction_of(n, d)


def shows_foot(flake, vector, thing):
    """Whether anything is what foot_on tells."""
    return is_alike(foot_on(flake, vector), thing)
