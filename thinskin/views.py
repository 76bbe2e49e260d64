"""Views: skins with a fineness for each place."""

from thinskin.fronts import skin_behind_these
from thinskin.fronts import without_these


def meets_box(corners, triangle, box):
    """Whether the box meets the triangle, by its bounds along each of x, y and z."""
    low, high = box
    for axis in range(3):
        along = [corners[corner][axis] for corner in triangle[:3]]
        if low[axis] > max(along) or high[axis] < min(along):
            return False
    return True


def triangles_in(corners, triangles, box):
    """The list of those triangles that meet the box."""
    return [triangle for triangle in triangles if meets_box(corners, triangle, box)]


def part_in(skin, box):
    """The rising list of the skin's triangles that meet the box."""
    corners, triangles = skin
    return triangles_in(corners, triangles, box)


def barred_by(first, steps, wish):
    """The rising list of the steps, from number many on, of whose star a triangle meets the box."""
    box, many = wish
    return [k for k in range(many, len(steps)) if triangles_in(first[0], steps[k][2], box)]


def choice_for(first, steps, wishes):
    """The greatest closed choice that has none of the steps that the wishes bar."""
    barred = {k: True for wish in wishes for k in barred_by(first, steps, wish)}
    return without_these(steps, sorted(barred))


def view_for(first, steps, wishes):
    """The skin behind all steps that the wishes let."""
    return skin_behind_these(first, steps, choice_for(first, steps, wishes))
