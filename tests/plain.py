"""The document's words told over again, plainly and slowly, to check the program by.

Nothing here uses the program.
"""

import functools
import itertools

# Answers that are asked for again and again are kept; the tests don't change them.
kept = functools.lru_cache(maxsize=400)


def is_whole(thing):
    return type(thing) is int


def is_place(thing):
    return type(thing) is tuple and len(thing) == 3 and all(is_whole(x) and abs(x) <= 1000 for x in thing)


def is_triangle(thing, corners):
    if type(thing) is not tuple or len(thing) != 4 or not all(is_whole(x) for x in thing):
        return False
    a, b, c, label = thing
    numbers = range(len(corners))
    if a not in numbers or b not in numbers or c not in numbers or label not in range(10):
        return False
    return len({a, b, c}) == 3 and a == min(a, b, c)


def is_skin(thing):
    if type(thing) is not tuple or len(thing) != 2:
        return False
    corners, triangles = thing
    if type(corners) is not tuple or not all(is_place(x) for x in corners):
        return False
    if type(triangles) is not tuple or not triangles or not all(is_triangle(x, corners) for x in triangles):
        return False
    if list(triangles) != sorted(set(triangles)):
        return False
    return fault(corners, triangles) is None


def less(one, other):
    return tuple(x - y for x, y in zip(one, other))


def dot(one, other):
    return sum(x * y for x, y in zip(one, other))


def cross(one, other):
    return tuple(one[k - 2] * other[k - 1] - one[k - 1] * other[k - 2] for k in range(3))


def normal(corners, triangle):
    a, b, c = [corners[k] for k in triangle[:3]]
    return cross(less(b, a), less(c, a))


def arrows(triangle):
    a, b, c, label = triangle
    return [(a, b), (b, c), (c, a)]


def hang_together(things, are_beside):
    """Lists of those things that one comes to from one another."""
    left, groups = list(things), []
    while left:
        group, new = [], [left.pop(0)]
        while new:
            here = new.pop()
            group.append(here)
            near = [thing for thing in left if are_beside(here, thing)]
            left = [thing for thing in left if thing not in near]
            new += near
        groups.append(sorted(group))
    return groups


def fault(corners, triangles):
    for number, triangle in enumerate(triangles):
        if normal(corners, triangle) == (0, 0, 0):
            return ("flat", number)
    all_arrows = sorted(arrow for triangle in triangles for arrow in arrows(triangle))
    for one, other in zip(all_arrows, all_arrows[1:]):
        if one == other:
            return ("arrow", one)
    for number, triangle in enumerate(triangles):
        others = triangles[:number] + triangles[number + 1:]
        if any(set(triangle[:3]) == set(other[:3]) for other in others):
            return ("alike", number)
    for corner in range(len(corners)):
        star = [triangle for triangle in triangles if corner in triangle[:3]]
        fans = hang_together(star, lambda one, other: len(set(one[:3]) & set(other[:3])) >= 2)
        if len(fans) > 1:
            return ("fan", corner)
    return None


@kept
def corners_of(skin):
    return [k for k in range(len(skin[0])) if any(k in triangle[:3] for triangle in skin[1])]


@kept
def all_arrows(skin):
    return [arrow for triangle in skin[1] for arrow in arrows(triangle)]


@kept
def ties(skin):
    there = all_arrows(skin)
    pairs = itertools.combinations(corners_of(skin), 2)
    return [(a, b) for a, b in pairs if (a, b) in there or (b, a) in there]


@kept
def rim_ties(skin):
    there = all_arrows(skin)
    return [(a, b) for a, b in ties(skin) if ((a, b) in there) != ((b, a) in there)]


def star(skin, corner):
    return tuple(triangle for triangle in skin[1] if corner in triangle[:3])


def parts(skin):
    joined = ties(skin)
    return hang_together(corners_of(skin), lambda one, other: (min(one, other), max(one, other)) in joined)


def rims(skin):
    """As sets of corners alone."""
    joined = rim_ties(skin)
    on_rims = sorted({corner for tie in joined for corner in tie})
    return hang_together(on_rims, lambda one, other: (min(one, other), max(one, other)) in joined)


def shape(skin):
    parts_, rims_ = len(parts(skin)), len(rims(skin))
    twice = 2 * parts_ - rims_ - len(corners_of(skin)) - len(skin[1]) + len(ties(skin))
    assert twice % 2 == 0
    return (parts_, rims_, twice // 2)


def label_at(skin, one, other):
    for triangle in skin[1]:
        if (one, other) in arrows(triangle):
            return triangle[3]
    return -1


@kept
def marked(skin):
    rim = rim_ties(skin)
    return [(a, b) for a, b in ties(skin) if (a, b) in rim or label_at(skin, a, b) != label_at(skin, b, a)]


def kind(skin, corner):
    ends = [tie[0] + tie[1] - corner for tie in marked(skin) if corner in tie]
    if not ends:
        return "free"
    if len(ends) == 2:
        p, q = [less(skin[0][end], skin[0][corner]) for end in ends]
        if cross(p, q) == (0, 0, 0) and dot(p, q) < 0:
            return "line"
    return "fixed"


def lines(skin):
    """Puts two of the lines together at a corner of kind line, again and again."""
    found = [list(tie) for tie in marked(skin)]
    for corner in corners_of(skin):
        if kind(skin, corner) == "line":
            one, other = [line for line in found if corner in (line[0], line[-1])]
            one = one if one[-1] == corner else one[::-1]
            other = other if other[0] == corner else other[::-1]
            found = [line for line in found if corner not in (line[0], line[-1])] + [one + other[1:]]
    told = []
    for line in found:
        if skin[0][line[0]] > skin[0][line[-1]]:
            line = line[::-1]
        sides = {(label_at(skin, a, b), label_at(skin, b, a)) for a, b in zip(line, line[1:])}
        assert len(sides) == 1
        told.append((skin[0][line[0]], skin[0][line[-1]]) + sides.pop())
    return sorted(told)


def bars(skin, stay, b, a):
    """All that bars b from being drawn to a, each word by itself, in the document's order."""
    corners, triangles = skin
    joined = ties(skin)

    def are_tied(one, other):
        return (min(one, other), max(one, other)) in joined

    kind_b = kind(skin, b)
    sets = [set(triangle[:3]) for triangle in triangles]
    had = corners_of(skin)
    mark = kind_b == "fixed" or kind_b == "line" and (min(a, b), max(a, b)) not in marked(skin)
    shape_ = any(are_tied(k, a) and are_tied(k, b) and {a, b, k} not in sets for k in had)
    both = [trio - {b} for trio in sets if b in trio and a not in trio]
    shape_ = shape_ or any({a, *two} in sets for two in both)
    turn = False
    for triangle in star(skin, b):
        if a not in triangle[:3]:
            moved = tuple(a if k == b else k for k in triangle[:3])
            turn = turn or dot(normal(corners, moved), normal(corners, triangle)) <= 0
    found = [("apart", not are_tied(a, b)), ("stays", b in stay), ("mark", mark), ("shape", shape_), ("turn", turn)]
    return [word for word, there in found if there]


def bar(skin, stay, b, a):
    return (bars(skin, stay, b, a) + [None])[0]


def drawn(skin, b, a):
    """The skin behind drawing b to a, where that is let."""
    left = []
    for triangle in skin[1]:
        if not {a, b} <= set(triangle[:3]):
            x, y, z = [a if k == b else k for k in triangle[:3]]
            left.append(min((x, y, z), (y, z, x), (z, x, y)) + triangle[3:])
    return (skin[0], tuple(sorted(left)))


def ahead(skin, step):
    """All skins from which the step leads to this one, by trying all: of few triangles only."""
    b, a, star_b = step
    found = []
    for many in range(len(skin[1]) + 1):
        for others in itertools.combinations(skin[1], many):
            there = (skin[0], tuple(sorted(others + star_b)))
            if is_skin(there) and star(there, b) == star_b and bar(there, (), b, a) is None:
                if drawn(there, b, a) == skin:
                    found.append(there)
    return found


def planes(skin):
    told = []
    for corner in range(len(skin[0])):
        told.append([])
        for triangle in star(skin, corner):
            n = normal(skin[0], triangle)
            told[-1].append((n, dot(n, skin[0][triangle[0]])))
    return told


def price(planes_, place):
    return sum((dot(n, place) - d) ** 2 for n, d in planes_)


def prices(skin, stay, planes_):
    told = []
    for one, other in ties(skin):
        for b, a in [(one, other), (other, one)]:
            if bar(skin, stay, b, a) is None:
                told.append((price(planes_[a] + planes_[b], skin[0][a]), b, a))
    return sorted(told)
