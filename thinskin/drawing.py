"""Drawing a corner together with a neighbour, and putting it back."""

from thinskin.errors import Barred
from thinskin.errors import NoStep
from thinskin.kinds import is_alike
from thinskin.kinds import is_number
from thinskin.marks import kind_by
from thinskin.marks import marked_in
from thinskin.nearby import facing_arrow
from thinskin.nearby import neighbours_in
from thinskin.nearby import star_of
from thinskin.nearby import tie_along
from thinskin.skins import is_skin
from thinskin.skins import normal_at
from thinskin.space import dot_of


def least_first(a, b, c, label):
    """The triangle that goes round by these corners, its least one put first."""
    if b < a and b < c:
        return (b, c, a, label)
    if c < a and c < b:
        return (c, a, b, label)
    return (a, b, c, label)


def moved_triangle(triangle, b, a):
    """The triangle with a in the place of b, which it has."""
    one, other = facing_arrow(triangle, b)
    return least_first(a, one, other, triangle[3])


def moved_star(star, b, a):
    """The list of b's triangles that are left, each with a in the place of b."""
    return [moved_triangle(triangle, b, a) for triangle in star if a not in triangle[:3]]


class Around:
    """What is seen at a corner by its star alone; it bars drawings, and nothing else does."""

    def __init__(self, star, corner):
        self.corner = corner
        self.star = star
        self.beside = {other: True for other in neighbours_in(star, corner)}
        self.facing = {tie_along(facing_arrow(triangle, corner)): True for triangle in star}
        self.ends = marked_in(star, corner)


def breaks_mark(corners, at_b, a):
    """Whether b would leave a place or a line that has to stay."""
    kind = kind_by(corners, at_b.corner, at_b.ends)
    return kind == "fixed" or (kind == "line" and a not in at_b.ends)


def breaks_shape(at_b, at_a):
    """Whether b and a hang together otherwise than by the triangles that have both."""
    for corner in at_b.beside:
        if corner in at_a.beside and tie_along((at_a.corner, corner)) not in at_b.facing:
            return True
    return any([tie in at_a.facing for tie in at_b.facing])


def turns_over(corners, at_b, a):
    """Whether a triangle of b that is left would not stay on its side."""
    for triangle in at_b.star:
        if a not in triangle[:3]:
            ahead = normal_at(corners, triangle)
            behind = normal_at(corners, moved_triangle(triangle, at_b.corner, a))
            if dot_of(behind, ahead) <= 0:
                return True
    return False


def bar_between(corners, stay, at_b, at_a):
    """What bars b from being drawn to a, by what is seen at both, or None."""
    a = at_a.corner
    if a not in at_b.beside:
        return "apart"
    if at_b.corner in stay:
        return "stays"
    if breaks_mark(corners, at_b, a):
        return "mark"
    if breaks_shape(at_b, at_a):
        return "shape"
    if turns_over(corners, at_b, a):
        return "turn"
    return None


def bar_of(skin, stay, b, a):
    """The word for what bars b from being drawn to a, or None where that is let."""
    return bar_between(skin[0], stay, Around(star_of(skin, b), b), Around(star_of(skin, a), a))


def skin_behind(skin, step):
    """The skin behind a step that is let."""
    corners, triangles = skin
    b, a, star = step
    left = [triangle for triangle in triangles if b not in triangle[:3]]
    return (corners, tuple(sorted(left + moved_star(star, b, a))))


def drawn_skin(skin, stay, b, a):
    """A pair: the skin behind drawing b to a, and the step; or Barred."""
    word = bar_of(skin, stay, b, a)
    if word is not None:
        raise Barred(f"corner {b} is not drawn to {a}: {word}", word)
    step = (b, a, star_of(skin, b))
    return (skin_behind(skin, step), step)


def skin_ahead(skin, step):
    """The only pair that can be the skin from which the step led to this one."""
    corners, triangles = skin
    b, a, star = step
    moved = moved_star(star, b, a)
    left = [triangle for triangle in triangles if triangle not in moved]
    return (corners, tuple(sorted(left + list(star))))


def put_back(skin, step):
    """The skin from which the step led to this one; or NoStep."""
    ahead = skin_ahead(skin, step)
    if not is_skin(ahead) or not shows_step(ahead, step, skin):
        raise NoStep("no skin leads here by that step")
    return ahead


def shows_step(skin, step, other):
    """Whether anything is a step of the skin, with none that stay, and anything the skin behind it."""
    if not isinstance(step, tuple) or len(step) != 3:
        return False
    b, a = step[:2]
    if not is_number(b) or not is_number(a) or bar_of(skin, (), b, a) is not None:
        return False
    return is_alike(drawn_skin(skin, (), b, a), (other, step))
