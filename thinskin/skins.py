"""What a skin is, and what keeps something from being one."""

from thinskin.kinds import is_number
from thinskin.nearby import arrows_in
from thinskin.nearby import fan_in
from thinskin.nearby import neighbours_in
from thinskin.nearby import stars_by_corner
from thinskin.space import is_place
from thinskin.space import normal_of

HIGHEST_LABEL = 9


def flake_at(corners, triangle):
    """The tuple of the places of a triangle's corners, in their order."""
    a, b, c = triangle[:3]
    return (corners[a], corners[b], corners[c])


def normal_at(corners, triangle):
    """The normal of a triangle, by the places of its corners."""
    a, b, c = flake_at(corners, triangle)
    return normal_of(a, b, c)


def is_table(thing):
    """Whether anything is a tuple of places."""
    return isinstance(thing, tuple) and all([is_place(part) for part in thing])


def is_triangle(thing, many):
    """Whether anything is a triangle of a table of so many corners."""
    if not isinstance(thing, tuple) or len(thing) != 4:
        return False
    if not all([is_number(part) for part in thing]):
        return False
    a, b, c, label = thing
    if not 0 <= a < min(b, c) or not max(b, c) < many or b == c:
        return False
    return 0 <= label <= HIGHEST_LABEL


def are_triangles(thing, many):
    """Whether anything is a rising tuple of one triangle at least, of such a table."""
    if not isinstance(thing, tuple) or len(thing) == 0:
        return False
    if not all([is_triangle(part, many) for part in thing]):
        return False
    return all([one < other for one, other in zip(thing, thing[1:])])


def is_skin(thing):
    """Whether anything is a skin, however many corners and triangles it has."""
    if not isinstance(thing, tuple) or len(thing) != 2:
        return False
    corners, triangles = thing
    if not is_table(corners) or not are_triangles(triangles, len(corners)):
        return False
    return fault_in(corners, triangles) is None


def flat_numbers(corners, triangles):
    """The rising list of the numbers of the triangles whose normal is nought."""
    return [k for k, triangle in enumerate(triangles) if normal_at(corners, triangle) == (0, 0, 0)]


def arrows_twice(triangles):
    """The list of the arrows that stand in two triangles."""
    seen = set()
    twice = []
    for triangle in triangles:
        for arrow in arrows_in(triangle):
            if arrow in seen:
                twice.append(arrow)
            seen.add(arrow)
    return twice


def alike_numbers(triangles):
    """The rising list of the numbers of the triangles whose corners another one has."""
    trios = [tuple(sorted(triangle[:3])) for triangle in triangles]
    counts = {}
    for trio in trios:
        counts[trio] = counts.get(trio, 0) + 1
    return [k for k, trio in enumerate(trios) if counts[trio] > 1]


def split_corners(triangles):
    """The list of the corners whose triangles are more than one fan; no arrow stands twice."""
    stars = stars_by_corner(triangles)
    # Two fans of a corner have no neighbour in common, since no arrow stands twice:
    # there is one fan just where a single one meets all neighbours.
    return [at for at in stars if len(fan_in(stars[at], at)) < len(neighbours_in(stars[at], at))]


def fault_in(corners, triangles):
    """The first clause of a skin that is not kept and the least that breaks it, or None."""
    flat = flat_numbers(corners, triangles)
    if flat:
        return ("flat", flat[0])
    twice = arrows_twice(triangles)
    if twice:
        return ("arrow", min(twice))
    alike = alike_numbers(triangles)
    if alike:
        return ("alike", alike[0])
    split = split_corners(triangles)
    if split:
        return ("fan", min(split))
    return None
