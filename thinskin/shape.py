"""The shape of a skin: its parts, rims and handles."""

from thinskin.nearby import corners_of
from thinskin.nearby import groups_by
from thinskin.nearby import lone_arrows
from thinskin.nearby import neighbours_in
from thinskin.nearby import stars_by_corner
from thinskin.nearby import ties_of
from thinskin.nearby import walk_from


def parts_of(skin):
    """The list of parts, each the rising list of its corners, by their least corner."""
    stars = stars_by_corner(skin[1])
    return groups_by({corner: neighbours_in(stars[corner], corner) for corner in stars})


def rims_of(skin):
    """The list of rims, each from its least corner on and round, by their least corner."""
    onward = {one: other for one, other in lone_arrows(skin[1])}
    told = set()
    rims = []
    for first in sorted(onward):
        if first not in told:
            rim = walk_from(onward, first)
            rims.append(rim)
            for corner in rim:
                told.add(corner)
    return rims


def handles_of(skin):
    """How many handles the skin has."""
    twice = 2 * len(parts_of(skin)) - len(rims_of(skin)) - len(corners_of(skin))
    return (twice - len(skin[1]) + len(ties_of(skin))) // 2


def shape_of(skin):
    """The tuple of how many parts, how many rims, and handles."""
    return (len(parts_of(skin)), len(rims_of(skin)), handles_of(skin))
