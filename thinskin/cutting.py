"""Skins cut along their seams into pieces, and pieces joined."""

from thinskin.drawing import least_first
from thinskin.errors import NoJoin
from thinskin.nearby import arrows_in
from thinskin.nearby import groups_by
from thinskin.nearby import stars_by_corner
from thinskin.skins import is_skin


def patches_in(triangles):
    """The list of the rising lists of triangles that hang together by ties that are not marked."""
    owners = {arrow: triangle for triangle in triangles for arrow in arrows_in(triangle)}
    links = {}
    for triangle in triangles:
        across = [owners[(other, one)] for one, other in arrows_in(triangle) if (other, one) in owners]
        links[triangle] = [beside for beside in across if beside[3] == triangle[3]]
    return groups_by(links)


def regions_of(skin):
    """The list of the regions, each a rising tuple of triangles, by their least triangle."""
    return [tuple(patch) for patch in patches_in(skin[1])]


def piece_of(corners, region):
    """A pair: the region as a skin of its own, and the origins of its corners."""
    stars = stars_by_corner(region)
    origins = []
    numbers = {}
    for corner in sorted(stars):
        # All of a region have one label: what hangs together round the corner is a fan.
        for fan in patches_in(stars[corner]):
            for triangle in fan:
                numbers[(corner, triangle)] = len(origins)
            origins.append(corner)
    triangles = []
    for triangle in region:
        a, b, c = [numbers[(corner, triangle)] for corner in triangle[:3]]
        triangles.append(least_first(a, b, c, triangle[3]))
    places = tuple([corners[origin] for origin in origins])
    return ((places, tuple(sorted(triangles))), tuple(origins))


def cut_pieces(skin):
    """The list with a pair (piece, origins) for each region."""
    return [piece_of(skin[0], region) for region in regions_of(skin)]


def check_places(corners, piece, origins):
    """Raises NoJoin where a place of the piece's table is not that of its origin."""
    for place, origin in zip(piece[0], origins):
        if place != corners[origin]:
            raise NoJoin(f"a corner is not at the place of its origin {origin}")


def triangles_at(piece, origins):
    """The list of the piece's triangles, their corners by origins."""
    return [least_first(origins[a], origins[b], origins[c], label) for a, b, c, label in piece[1]]


def joined_skin(corners, pieces):
    """The skin of that table with all pieces' triangles; or NoJoin."""
    triangles = []
    for piece, origins in pieces:
        check_places(corners, piece, origins)
        triangles.extend(triangles_at(piece, origins))
    joined = (corners, tuple(sorted(triangles)))
    if not is_skin(joined):
        raise NoJoin("what the pieces make is no skin")
    return joined
