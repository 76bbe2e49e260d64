"""Places, vectors and fractions, in whole numbers."""

from thinskin.kinds import is_number

LOWEST = -1000
HIGHEST = 1000


def is_place(thing):
    """Whether anything is a tuple of three numbers within the bounds."""
    if not isinstance(thing, tuple) or len(thing) != 3:
        return False
    return all([is_number(part) and LOWEST <= part <= HIGHEST for part in thing])


def less_by(one, other):
    """The vector one less the vector other."""
    x1, y1, z1 = one
    x2, y2, z2 = other
    return (x1 - x2, y1 - y2, z1 - z2)


def cross_of(one, other):
    """The cross product of two vectors."""
    x1, y1, z1 = one
    x2, y2, z2 = other
    return (y1 * z2 - z1 * y2, z1 * x2 - x1 * z2, x1 * y2 - y1 * x2)


def dot_of(one, other):
    """The dot product of two vectors."""
    x1, y1, z1 = one
    x2, y2, z2 = other
    return x1 * x2 + y1 * y2 + z1 * z2


def common_divisor(one, other):
    """The greatest number that divides both, which are not both nought."""
    while other != 0:
        one, other = other, one % other
    return abs(one)


def fraction_of(n, d):
    """The fraction n over d, in lowest terms, the lower number above 0."""
    divisor = common_divisor(n, d)
    if d < 0:
        divisor = -divisor
    return (n // divisor, d // divisor)


def compare_two(one, other):
    """-1, 0 or 1, as the fraction one is less than, like or greater than other."""
    left = one[0] * other[1]
    right = other[0] * one[1]
    if left < right:
        return -1
    if left > right:
        return 1
    return 0


def normal_of(a, b, c):
    """The normal of three corners, in the order in which one goes round them."""
    return cross_of(less_by(b, a), less_by(c, a))
