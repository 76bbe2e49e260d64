"""What it costs to draw corners together: squares of how far one comes off the planes."""

from thinskin.drawing import Around
from thinskin.drawing import bar_between
from thinskin.nearby import stars_by_corner
from thinskin.skins import normal_at
from thinskin.space import dot_of


def plane_of(corners, triangle):
    """The plane of a triangle, whose first corner is its least one."""
    normal = normal_at(corners, triangle)
    return (normal, dot_of(normal, corners[triangle[0]]))


def planes_of(skin):
    """A list with, for each corner of the table, the list of its triangles' planes."""
    corners, triangles = skin
    planes = [[] for place in corners]
    for triangle in triangles:
        plane = plane_of(corners, triangle)
        for corner in triangle[:3]:
            planes[corner].append(plane)
    return planes


def price_at(planes, place):
    """The sum of the squares of how far, by the normals, the place is off these planes."""
    gaps = [dot_of(n, place) - d for n, d in planes]
    return sum([gap * gap for gap in gaps])


def prices_of(skin, stay, planes):
    """The rising list of (price, b, a) of all drawings that are let."""
    corners, triangles = skin
    stars = stars_by_corner(triangles)
    around = {corner: Around(stars[corner], corner) for corner in stars}
    prices = []
    for a in around:
        own = price_at(planes[a], corners[a])
        for b in around[a].beside:
            if bar_between(corners, stay, around[b], around[a]) is None:
                prices.append((own + price_at(planes[b], corners[a]), b, a))
    return sorted(prices)
