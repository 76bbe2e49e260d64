"""[18] told over again, plainly and slowly. Nothing here uses the program."""

import plain


def turned(a, b, c, label):
    return min((a, b, c), (b, c, a), (c, a, b)) + (label,)


def shared(one, other):
    return tuple(sorted(set(one[:3]) & set(other[:3])))


def regions(skin):
    unmarked = set(plain.ties(skin)) - set(plain.marked(skin))
    groups = plain.hang_together(skin[1], lambda one, other: shared(one, other) in unmarked)
    return sorted(tuple(group) for group in groups)


def pieces(skin):
    told = []
    for region in regions(skin):
        fans = []
        for corner in plain.corners_of(skin):
            star = [triangle for triangle in region if corner in triangle[:3]]
            groups = plain.hang_together(star, lambda one, other: len(shared(one, other)) == 2)
            fans += sorted((corner, group) for group in groups)
        triangles = []
        for triangle in region:
            numbers = []
            for corner in triangle[:3]:
                (number,) = [k for k, fan in enumerate(fans) if fan[0] == corner and triangle in fan[1]]
                numbers.append(number)
            triangles.append(turned(*numbers, triangle[3]))
        origins = tuple(fan[0] for fan in fans)
        told.append(((tuple(skin[0][k] for k in origins), tuple(sorted(triangles))), origins))
    return told


def joined(corners, pieces_):
    """The skin, or None."""
    triangles = []
    for (places, own), origins in pieces_:
        assert len(places) == len(origins)
        if any(place != corners[origin] for place, origin in zip(places, origins)):
            return None
        triangles += [turned(origins[a], origins[b], origins[c], label) for a, b, c, label in own]
    there = (corners, tuple(sorted(triangles)))
    return there if plain.is_skin(there) else None
