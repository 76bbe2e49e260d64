"""How far two skins are from one another, bounded from both sides.

Squares are compared as they come, and put in lowest terms only where they are told.
"""

from thinskin.foot import foot_on
from thinskin.foot import square_from
from thinskin.kinds import is_alike
from thinskin.nearby import corners_of
from thinskin.skins import flake_at
from thinskin.space import compare_two
from thinskin.space import fraction_of


def flakes_of(skin):
    """The list of the flakes of its triangles, in their order."""
    corners, triangles = skin
    return [flake_at(corners, triangle) for triangle in triangles]


def squares_to(flakes, vector):
    """The list of the squares of how far the flakes are from the vector."""
    return [square_from(flake, vector) for flake in flakes]


def least_at(squares):
    """The number of the first of the least squares."""
    least = 0
    for at, square in enumerate(squares):
        if compare_two(square, squares[least]) < 0:
            least = at
    return least


def greatest_at(squares):
    """The number of the first of the greatest squares."""
    greatest = 0
    for at, square in enumerate(squares):
        if compare_two(square, squares[greatest]) > 0:
            greatest = at
    return greatest


def least_of(squares):
    """The least of the squares."""
    return squares[least_at(squares)]


def greatest_of(squares):
    """The greatest of the squares."""
    return squares[greatest_at(squares)]


def nearest_of(skin, vector):
    """The tuple (square, triangle, point) of the least of the triangles that are nearest."""
    flakes = flakes_of(skin)
    squares = squares_to(flakes, vector)
    at = least_at(squares)
    n, d = squares[at]
    return (fraction_of(n, d), skin[1][at], foot_on(flakes[at], vector))


def shows_nearest(skin, vector, thing):
    """Whether anything is what nearest_of tells."""
    return is_alike(nearest_of(skin, vector), thing)


def farthest_of(one, other):
    """A pair: the greatest square from a corner that one has to other, and the least such corner."""
    flakes = flakes_of(other)
    had = corners_of(one)
    squares = [least_of(squares_to(flakes, one[0][corner])) for corner in had]
    at = greatest_at(squares)
    n, d = squares[at]
    return (fraction_of(n, d), had[at])


def added_to(one, other):
    """The sum of two vectors."""
    return (one[0] + other[0], one[1] + other[1], one[2] + other[2])


def doubled_flake(flake):
    """The flake in half the measure: all its numbers twice as great."""
    a, b, c = flake
    return (added_to(a, a), added_to(b, b), added_to(c, c))


def quarters_of(piece):
    """The four pieces into which a piece is parted, in half the measure.

    There the middles of sides are whole again: a middle is the sum of the ends.
    """
    a, b, c = piece
    aa, bb, cc = doubled_flake(piece)
    ab = added_to(a, b)
    bc = added_to(b, c)
    ca = added_to(c, a)
    return [(aa, ab, ca), (ab, bb, bc), (ca, bc, cc), (ab, bc, ca)]


def squares_by_corner(pieces, flakes):
    """A dict with, for each corner of pieces, the list of its squares to the flakes."""
    squares = {}
    for piece in pieces:
        for corner in piece:
            if corner not in squares:
                squares[corner] = squares_to(flakes, corner)
    return squares


def piece_square(squares, piece):
    """The least, over the flakes, of the greatest square of the piece's corners to that flake."""
    a, b, c = piece
    return least_of([greatest_of(trio) for trio in zip(squares[a], squares[b], squares[c])])


def bounds_of(one, other, halvings):
    """The pair (low, high) that bounds the square of how far one comes off from other."""
    pieces = flakes_of(one)
    flakes = flakes_of(other)
    measure = 1
    for halving in range(halvings):
        pieces = [quarter for piece in pieces for quarter in quarters_of(piece)]
        flakes = [doubled_flake(flake) for flake in flakes]
        measure *= 2
    squares = squares_by_corner(pieces, flakes)
    low = greatest_of([least_of(squares[corner]) for corner in squares])
    high = greatest_of([piece_square(squares, piece) for piece in pieces])
    whole = measure * measure
    return (fraction_of(low[0], low[1] * whole), fraction_of(high[0], high[1] * whole))


def both_bounds(one, other, halvings):
    """The pair of the greater low and the greater high of both ways about."""
    low, high = bounds_of(one, other, halvings)
    other_low, other_high = bounds_of(other, one, halvings)
    return (greatest_of([low, other_low]), greatest_of([high, other_high]))


def is_within(one, other, halvings, square):
    """Whether each is no further from the other than the square: "yes", "no" or "open"."""
    low, high = both_bounds(one, other, halvings)
    if compare_two(high, square) <= 0:
        return "yes"
    if compare_two(low, square) > 0:
        return "no"
    return "open"
