"""What lies beside a corner: ties, stars and fans.

A star is the tuple of the triangles that have a corner. What asks for one alone
can be told without the rest of the skin.
"""


def arrows_in(triangle):
    """The three arrows of a triangle, as it goes round."""
    a, b, c = triangle[:3]
    return [(a, b), (b, c), (c, a)]


def facing_arrow(triangle, corner):
    """The arrow of the triangle that does not meet its corner."""
    a, b, c = triangle[:3]
    if corner == a:
        return (b, c)
    if corner == b:
        return (c, a)
    return (a, b)


def tie_along(arrow):
    """The tie of an arrow's corners."""
    one, other = arrow
    return (min(one, other), max(one, other))


def lone_arrows(triangles):
    """The rising list of the arrows that have no other one against them: those on rims."""
    found = {arrow: True for triangle in triangles for arrow in arrows_in(triangle)}
    return sorted([(one, other) for one, other in found if (other, one) not in found])


def corners_of(skin):
    """The rising list of the corners that some triangle has."""
    return sorted({corner for triangle in skin[1] for corner in triangle[:3]})


def ties_of(skin):
    """The rising list of all ties."""
    return sorted({tie_along(arrow) for triangle in skin[1] for arrow in arrows_in(triangle)})


def rim_ties(skin):
    """The rising list of the ties on rims."""
    return sorted([tie_along(arrow) for arrow in lone_arrows(skin[1])])


def star_of(skin, corner):
    """The rising tuple of the triangles that have the corner."""
    return tuple([triangle for triangle in skin[1] if corner in triangle[:3]])


def stars_by_corner(triangles):
    """A dict with the star of each corner that some triangle has."""
    found = {}
    for triangle in triangles:
        for corner in triangle[:3]:
            found.setdefault(corner, []).append(triangle)
    return {corner: tuple(found[corner]) for corner in found}


def neighbours_in(star, corner):
    """The rising list of the corner's neighbours, by its star."""
    return sorted({other for triangle in star for other in triangle[:3] if other != corner})


def reached_from(links, first):
    """The rising list of what one comes to from the first, itself among it, by the links."""
    reached = {first: True}
    left = [first]
    while left:
        here = left.pop()
        for beside in links[here]:
            if beside not in reached:
                reached[beside] = True
                left.append(beside)
    return sorted(reached)


def groups_by(links):
    """The list of the rising lists of what hangs together by the links, by their least.

    The links are a dict with, for each, the list of those beside it.
    """
    told = set()
    groups = []
    for first in sorted(links):
        if first not in told:
            group = reached_from(links, first)
            groups.append(group)
            for member in group:
                told.add(member)
    return groups


def walk_from(onward, first):
    """The list from first on, each next one by onward, till it ends or comes round."""
    walk = [first]
    here = onward.get(first)
    while here is not None and here != first:
        walk.append(here)
        here = onward.get(here)
    return walk


def fan_in(star, corner):
    """The neighbours along one fan of the star, in which no arrow stands twice."""
    if not star:
        return []
    onward = {one: other for one, other in [facing_arrow(triangle, corner) for triangle in star]}
    reached = {other: True for other in onward.values()}
    starts = [one for one in onward if one not in reached]
    if not starts:
        starts = list(onward)
    return walk_from(onward, min(starts))


def fan_of(skin, corner):
    """The list of the corner's neighbours, as its triangles go round it."""
    return fan_in(star_of(skin, corner), corner)
