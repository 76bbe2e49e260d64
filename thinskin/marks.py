"""Marked ties, the kinds of corners, and the straight lines that marked ties make."""

from thinskin.nearby import arrows_in
from thinskin.nearby import neighbours_in
from thinskin.nearby import star_of
from thinskin.nearby import ties_of
from thinskin.space import cross_of
from thinskin.space import dot_of
from thinskin.space import less_by

NO_LABEL = -1


def labels_by_arrow(triangles):
    """A dict with, for each arrow, the label of its triangle."""
    return {arrow: triangle[3] for triangle in triangles for arrow in arrows_in(triangle)}


def labels_beside(labels, one, other):
    """The labels left and right of the way from one to other, NO_LABEL where there is none."""
    return (labels.get((one, other), NO_LABEL), labels.get((other, one), NO_LABEL))


def is_marked(labels, one, other):
    """Whether the tie of one and other is marked: no label at a rim is unlike any label, too."""
    left, right = labels_beside(labels, one, other)
    return left != right


def marked_ties(skin):
    """The rising list of the marked ties."""
    labels = labels_by_arrow(skin[1])
    return [(one, other) for one, other in ties_of(skin) if is_marked(labels, one, other)]


def marked_in(star, corner):
    """The rising list of the neighbours to which the corner's marked ties go, by its star."""
    labels = labels_by_arrow(star)
    return [beside for beside in neighbours_in(star, corner) if is_marked(labels, corner, beside)]


def lies_between(place, one, other):
    """Whether a place lies straight between two others."""
    to_one = less_by(one, place)
    to_other = less_by(other, place)
    return cross_of(to_one, to_other) == (0, 0, 0) and dot_of(to_one, to_other) < 0


def kind_by(corners, corner, ends):
    """The kind of a corner whose marked ties go to these ends."""
    if not ends:
        return "free"
    if len(ends) == 2 and lies_between(corners[corner], corners[ends[0]], corners[ends[1]]):
        return "line"
    return "fixed"


def kind_of(skin, corner):
    """The kind of a corner that the skin has."""
    return kind_by(skin[0], corner, marked_in(star_of(skin, corner), corner))


def ends_by_corner(ties):
    """A dict with, for each corner of these ties, the list of the other ends."""
    ends = {}
    for one, other in ties:
        ends.setdefault(one, []).append(other)
        ends.setdefault(other, []).append(one)
    return ends


def line_end(corners, ends, one, other):
    """The corner at which the line ends that begins with the tie from one to other.

    It does end: along a straight line one never comes back.
    """
    while kind_by(corners, other, ends[other]) == "line":
        first, second = ends[other]
        one, other = other, (second if first == one else first)
    return other


def lines_of(skin):
    """The rising list of the lines, each (one, other, left, right)."""
    corners, triangles = skin
    labels = labels_by_arrow(triangles)
    ends = ends_by_corner(marked_ties(skin))
    lines = []
    for start in ends:
        if kind_by(corners, start, ends[start]) == "fixed":
            for beside in ends[start]:
                last = line_end(corners, ends, start, beside)
                # Each line is met from both of its ends, and told from the lesser one.
                if corners[start] < corners[last]:
                    left, right = labels_beside(labels, start, beside)
                    lines.append((corners[start], corners[last], left, right))
    return sorted(lines)
